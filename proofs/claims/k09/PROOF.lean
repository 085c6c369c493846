import PyProof.Rows.All
import Wide.All
import OpenK.AllK
import Wide.FinOn
import HandS.ForMost
import HandS.Exc
import HandS.TryOnly
import HandS.ExcOwn
import HandS.WordsExc
import HandS.Defaults
import HandS.IsInst
import HandS.Wide
import HandS.Gcd
import HandS.Flow
import HandS.Conv
import HandS.RaiseMore
import HandS.TupAny
import HandS.Zip
import HandS.Rev
import HandS.Deep
import HandS.WideBits
import PyProof.ReprBulk
import HandS.Head0
import HandS.Head1
import HandS.Head2
import HandS.Head3
import HandS.HeadHook4
import HandS.HeadEnd
import HandS.EndBits
import HandS.MakeKwOnly
import PySem.Challenge.RW_countfold_k09_what_divides_coefs
set_option Elab.async false
set_option linter.all false
set_option maxRecDepth 100000
set_option maxHeartbeats 0

namespace FE
open PySem PySem.Spec PyProof.Rows L2

/-! data without a heap -/
inductive D where
  | non | bl (b : Bool) | int (i : Int) | str (x : PySem.Str)
  | tup (ds : List D) | wtp (ds : List D) | lst (ds : List D)
  | dic (ks : List Key) (ds : List D)
  | obj (c : PySem.Str) (ns : List PySem.Str) (ds : List D)
  | dev (j : Nat) (x : V)

/-- a slot: nothing, a value that stays, a list of one's own, a list of the caller's that is handed in to be changed -/
inductive SV where
  | no | sh (d : D) | ow (ds : List D) | io (ds : List D)
abbrev Env := List SV
inductive R where
  | sh (d : D) | ow (ds : List D)
def R.fz : R → D
  | .sh d => d
  | .ow ds => .lst ds
def R.sv : R → SV
  | .sh d => .sh d
  | .ow ds => .ow ds
/-- an exception: its class's name, what it bears -/
structure Xc where
  cls : PySem.Str
  bears : List (PySem.Str × D)

inductive OE where
  | ok (r : R) (env : Env) | exc (x : Xc) (env : Env) | bad
inductive OT where
  | ok (b : Bool) (env : Env) | exc (x : Xc) (env : Env) | bad
inductive OA where
  | ok (ds : List D) (env : Env) | exc (x : Xc) (env : Env) | bad
inductive OS where
  | nx (env : Env) | ret (r : R) (env : Env) | brk (env : Env) | cnt (env : Env) | exc (x : Xc) (env : Env) | bad

def OE.bind (o : OE) (f : R → Env → OE) : OE := match o with
  | .ok r env => f r env
  | .exc x env => .exc x env
  | .bad => .bad
def OE.bindT (o : OE) (f : R → Env → OT) : OT := match o with
  | .ok r env => f r env
  | .exc x env => .exc x env
  | .bad => .bad
def OE.bindA (o : OE) (f : R → Env → OA) : OA := match o with
  | .ok r env => f r env
  | .exc x env => .exc x env
  | .bad => .bad
def OE.bindS (o : OE) (f : R → Env → OS) : OS := match o with
  | .ok r env => f r env
  | .exc x env => .exc x env
  | .bad => .bad
def OT.bind (o : OT) (f : Bool → Env → OT) : OT := match o with
  | .ok r env => f r env
  | .exc x env => .exc x env
  | .bad => .bad
def OT.bindE (o : OT) (f : Bool → Env → OE) : OE := match o with
  | .ok r env => f r env
  | .exc x env => .exc x env
  | .bad => .bad
def OT.bindS (o : OT) (f : Bool → Env → OS) : OS := match o with
  | .ok r env => f r env
  | .exc x env => .exc x env
  | .bad => .bad
def OA.bind (o : OA) (f : List D → Env → OA) : OA := match o with
  | .ok r env => f r env
  | .exc x env => .exc x env
  | .bad => .bad
def OA.bindE (o : OA) (f : List D → Env → OE) : OE := match o with
  | .ok r env => f r env
  | .exc x env => .exc x env
  | .bad => .bad

/-! what represents what -/
def Ex (H H' : Hp) : Prop := ∀ a o, H a = some o → H' a = some o
theorem Ex.refl (H : Hp) : Ex H H := fun _ _ h => h
theorem Ex.trans {H H1 H2 : Hp} (a : Ex H H1) (b : Ex H1 H2) : Ex H H2 := fun x o h => b x o (a x o h)
theorem Ex.new {H : Hp} {p : Addr} {o : HO} (h : H p = none) : Ex H (upd H p o) := fun a u e => by
  rw [upd_ne (ne_of_none e h)]
  exact e
theorem Ex.rd {H H' : Hp} {a : Addr} {u : HO} (e : Ex H H') (h : Rd H a u) : Rd H' a u := by
  rcases h with h | ⟨o, h⟩
  · exact Or.inl (e a _ h)
  · exact Or.inr ⟨o, e a _ h⟩
theorem Ex.l {K : PySem.W.Frag} {H H' : Hp} {a : Addr} {xs : List V} (e : Ex H H') (h : SqL K H a xs) : SqL K H' a xs := by
  rcases h with h | h
  · exact Or.inl (e.rd h)
  · exact Or.inr h
theorem Ex.t {K : PySem.W.Frag} {H H' : Hp} {a : Addr} {xs : List V} (e : Ex H H') (h : SqT K H a xs) : SqT K H' a xs := by
  rcases h with h | h
  · exact Or.inl (e.rd h)
  · exact Or.inr h

structure Gd where
  K : PySem.W.Frag
  mg : PySem.Str → Option Value
/-- a list at a: of the call's own, or of the written part -/
def Lr (K : PySem.W.Frag) (F : Hp) (a : Addr) (vs : List V) : Prop :=
  Rd F a (.lst vs) ∨ ∃ (its : List Value) (n : Nat), K.lookup a = some { cls := .type "list", data := .seq its.toArray n } ∧ its.length ≤ sizeLine ∧ Vals vs its
theorem Lr.sq {K : PySem.W.Frag} {F : Hp} {a : Addr} {vs : List V} (h : Lr K F a vs) : SqL K F a vs := by
  rcases h with h | ⟨its, n, h1, h2, h3⟩
  · exact .inl h
  · exact .inr ⟨_, its.toArray, n, h1, rfl, rfl, rfl, by rw [List.size_toArray]; exact h2, by simpa using h3⟩
theorem Ex.lr {K : PySem.W.Frag} {H H' : Hp} {a : Addr} {xs : List V} (e : Ex H H') (h : Lr K H a xs) : Lr K H' a xs := by
  rcases h with h | h
  · exact Or.inl (e.rd h)
  · exact Or.inr h

/-- a tuple on which no dict hangs -/
def NdT (K : PySem.W.Frag) (F : Hp) (a : Addr) (vs : List V) : Prop :=
  (∃ o : Obj, F a = some (.frz o (.tup vs)) ∧ o.dict = none) ∨
    ∃ (o : Obj) (its : Array Value) (n : Nat), K.lookup a = some o ∧ o.cls = .type "tuple" ∧ o.dict = none ∧ o.data = .seq its n ∧ its.size ≤ sizeLine ∧ Vals vs its.toList
theorem NdT.t {K : PySem.W.Frag} {F : Hp} {a : Addr} {vs : List V} (h : NdT K F a vs) : SqT K F a vs := by
  rcases h with ⟨o, h, _⟩ | ⟨o, its, n, h1, h2, _, h3, h4, h5⟩
  · exact .inl (.inr ⟨o, h⟩)
  · exact .inr ⟨o, its, n, h1, h2, h3, h4, h5⟩
theorem Ex.nd {K : PySem.W.Frag} {H H' : Hp} {a : Addr} {xs : List V} (e : Ex H H') (h : NdT K H a xs) : NdT K H' a xs := by
  rcases h with ⟨o, h, d⟩ | h
  · exact .inl ⟨o, e a _ h, d⟩
  · exact .inr h
theorem NdT.new {K : PySem.W.Frag} {F : Hp} {p : Addr} {o : Obj} {vs : List V} (h : o.dict = none) : NdT K (upd F p (.frz o (.tup vs))) p vs := .inl ⟨o, upd_same, h⟩

mutual
inductive Rep (G : Gd) (F : Hp) : V → D → Prop
  | non : Rep G F .non .non
  | bl (b : Bool) : Rep G F (.bl b) (.bl b)
  | int (i : Int) : Rep G F (.int i) (.int i)
  | str (x : PySem.Str) : Rep G F (.str x) (.str x)
  | wtp {a : Addr} {vs : List V} {ds : List D} : SqT G.K F a vs → RepL G F vs ds → Rep G F (.ref a) (.wtp ds)
  | tup {a : Addr} {vs : List V} {ds : List D} : NdT G.K F a vs → RepL G F vs ds → Rep G F (.ref a) (.tup ds)
  | lst {a : Addr} {vs : List V} {ds : List D} : Lr G.K F a vs → RepL G F vs ds → Rep G F (.ref a) (.lst ds)
  | dic {a : Addr} {ks : List Key} {vs : List V} {ds : List D} : F a = some (.dK (ks.zip vs)) → ks.length = vs.length → RepL G F vs ds → Rep G F (.ref a) (.dic ks ds)
  | obj {a C dx : Addr} {c : PySem.Str} {ns : List PySem.Str} {vs : List V} {ds : List D} : F a = some (.ins C dx (ns.zip vs)) → F dx = some (.own a) → G.mg c = some (.ref C) → ns.length = vs.length → RepL G F vs ds → Rep G F (.ref a) (.obj c ns ds)
  | dev (j : Nat) (x : V) : Rep G F x (.dev j x)
inductive RepL (G : Gd) (F : Hp) : List V → List D → Prop
  | nil : RepL G F [] []
  | cons {v : V} {vs : List V} {d : D} {ds : List D} : Rep G F v d → RepL G F vs ds → RepL G F (v :: vs) (d :: ds)
end

section
variable {G : Gd} {F F' : Hp}
mutual
theorem Rep.mono (e : Ex F F') : ∀ {v : V} {d : D}, Rep G F v d → Rep G F' v d
  | _, _, .non => .non
  | _, _, .bl b => .bl b
  | _, _, .int i => .int i
  | _, _, .str x => .str x
  | _, _, .wtp h r => .wtp (e.t h) (RepL.mono e r)
  | _, _, .tup h r => .tup (e.nd h) (RepL.mono e r)
  | _, _, .lst h r => .lst (e.lr h) (RepL.mono e r)
  | _, _, .dic h l r => .dic (e _ _ h) l (RepL.mono e r)
  | _, _, .obj h h2 g l r => .obj (e _ _ h) (e _ _ h2) g l (RepL.mono e r)
  | _, _, .dev j x => .dev j x
theorem RepL.mono (e : Ex F F') : ∀ {vs : List V} {ds : List D}, RepL G F vs ds → RepL G F' vs ds
  | _, _, .nil => .nil
  | _, _, .cons h r => .cons (Rep.mono e h) (RepL.mono e r)
end
theorem RepL.length : ∀ {vs : List V} {ds : List D}, RepL G F vs ds → vs.length = ds.length
  | _, _, .nil => rfl
  | _, _, .cons _ r => congrArg Nat.succ (RepL.length r)
theorem RepL.get : ∀ {vs : List V} {ds : List D} {i : Nat} {d : D}, RepL G F vs ds → ds[i]? = some d → ∃ v, vs[i]? = some v ∧ Rep G F v d
  | _, _, _, _, .nil, e => by simp at e
  | _, _, 0, _, .cons h _, e => by
    simp at e
    subst e
    exact ⟨_, rfl, h⟩
  | _, _, i + 1, _, .cons _ r, e => by
    obtain ⟨v, h1, h2⟩ := RepL.get (i := i) r (by simpa using e)
    exact ⟨v, by simpa using h1, h2⟩
theorem RepL.getV : ∀ {vs : List V} {ds : List D} {i : Nat} {v : V}, RepL G F vs ds → vs[i]? = some v → ∃ d, ds[i]? = some d ∧ Rep G F v d
  | _, _, _, _, .nil, e => by simp at e
  | _, _, 0, _, .cons h _, e => by
    simp at e
    subst e
    exact ⟨_, rfl, h⟩
  | _, _, i + 1, _, .cons _ r, e => by
    obtain ⟨v, h1, h2⟩ := RepL.getV (i := i) r (by simpa using e)
    exact ⟨v, by simpa using h1, h2⟩
theorem RepL.set {v : V} {d : D} (h : Rep G F v d) : ∀ {vs : List V} {ds : List D} (i : Nat), RepL G F vs ds → RepL G F (vs.set i v) (ds.set i d)
  | _, _, _, .nil => .nil
  | _, _, 0, .cons _ r => .cons h r
  | _, _, i + 1, .cons q r => .cons q (RepL.set h i r)
theorem RepL.append : ∀ {vs ws : List V} {ds es : List D}, RepL G F vs ds → RepL G F ws es → RepL G F (vs ++ ws) (ds ++ es)
  | _, _, _, _, .nil, s => s
  | _, _, _, _, .cons h r, s => .cons h (RepL.append r s)
theorem RepL.take : ∀ {vs : List V} {ds : List D} (n : Nat), RepL G F vs ds → RepL G F (vs.take n) (ds.take n)
  | _, _, 0, _ => .nil
  | _, _, _ + 1, .nil => .nil
  | _, _, n + 1, .cons h r => .cons h (RepL.take n r)
theorem RepL.drop : ∀ {vs : List V} {ds : List D} (n : Nat), RepL G F vs ds → RepL G F (vs.drop n) (ds.drop n)
  | _, _, 0, r => r
  | _, _, _ + 1, .nil => .nil
  | _, _, n + 1, .cons _ r => RepL.drop n r
theorem RepL.reverse : ∀ {vs : List V} {ds : List D}, RepL G F vs ds → RepL G F vs.reverse ds.reverse
  | _, _, .nil => .nil
  | _, _, .cons h r => by
    rw [List.reverse_cons, List.reverse_cons]
    exact RepL.append (RepL.reverse r) (.cons h .nil)
theorem RepL.single {v : V} {d : D} (h : Rep G F v d) : RepL G F [v] [d] := .cons h .nil
end

/-- the entry of a def: what was frozen then, the heap then, what is handed in to be changed; what is wished of an exception -/
structure Zd where
  G : Gd
  F0 : Hp
  H0 : Hp
  ps : List Addr
  W : WX
  C : PySem.Str → Value → Prop

def Own : SV → Option (List D)
  | .ow ds => some ds
  | .io ds => some ds
  | _ => none

structure Good (Z : Zd) (F : Hp) (σ : L2.St) (H : Hp) (env : Env) : Prop where
  ff : Ex Z.F0 F
  fh : Ex F H
  keep : ∀ a o, Z.H0 a = some o → a ∉ Z.ps → H a = some o
  new : ∀ a o, F a = some o → Z.F0 a = none → Z.H0 a = none
  len : env.length = σ.length
  sh : ∀ (i : Nat) d, env[i]? = some (.sh d) → ∃ v, σ[i]? = some (some v) ∧ Rep Z.G F v d
  ow : ∀ (i : Nat) s ds, env[i]? = some s → Own s = some ds → ∃ a vs, σ[i]? = some (some (.ref a)) ∧ H a = some (.lst vs) ∧ F a = none ∧ RepL Z.G F vs ds ∧ (a ∈ Z.ps ∨ Z.H0 a = none)
  io : ∀ (i : Nat) ds, env[i]? = some (.io ds) → ∃ a, σ[i]? = some (some (.ref a)) ∧ a ∈ Z.ps
  nio : ∀ (i : Nat) ds, env[i]? = some (.ow ds) → ∀ a, σ[i]? = some (some (.ref a)) → Z.H0 a = none
  pa : ∀ a ∈ Z.ps, ∃ (i : Nat) (ds : List D), env[i]? = some (.io ds) ∧ σ[i]? = some (some (.ref a))
  dis : ∀ (i j : Nat) a s t, i ≠ j → env[i]? = some s → env[j]? = some t → (Own s).isSome = true → (Own t).isSome = true → σ[i]? = some (some (.ref a)) → σ[j]? ≠ some (some (.ref a))

/-- a value that has come -/
def RepR (Z : Zd) (F : Hp) (σ : L2.St) (env : Env) (H : Hp) (v : V) : R → Prop
  | .sh d => Rep Z.G F v d
  | .ow ds => ∃ a vs, v = .ref a ∧ H a = some (.lst vs) ∧ F a = none ∧ RepL Z.G F vs ds ∧ Z.H0 a = none ∧ ∀ (i : Nat) s, env[i]? = some s → (Own s).isSome = true → σ[i]? ≠ some (some (.ref a))

section
variable {Z : Zd} {F F' H H' : Hp} {σ : L2.St} {env : Env}
/-- an object that nobody owns is laid, not known further -/
theorem Good.lay (g : Good Z F σ H env) {p : Addr} {o : HO} (h : H p = none) : Good Z F σ (upd H p o) env where
  ff := g.ff
  fh := g.fh.trans (Ex.new h)
  keep := fun a u e n => Ex.new h a u (g.keep a u e n)
  new := g.new
  len := g.len
  sh := g.sh
  ow := fun i s ds e1 e2 => by
    obtain ⟨a, vs, h1, h2, h3, h4, h5⟩ := g.ow i s ds e1 e2
    exact ⟨a, vs, h1, Ex.new h a _ h2, h3, h4, h5⟩
  io := g.io
  nio := g.nio
  pa := g.pa
  dis := g.dis
theorem Good.fresh (g : Good Z F σ H env) {p : Addr} (h : H p = none) : F p = none := by
  cases q : F p with
  | none => rfl
  | some o =>
    rw [g.fh p o q] at h
    cases h
theorem Good.nps (g : Good Z F σ H env) {p : Addr} (h : H p = none) : p ∉ Z.ps := fun hp => by
  obtain ⟨i, ds, e1, e2⟩ := g.pa p hp
  obtain ⟨a, vs, h1, h2, _⟩ := g.ow i _ ds e1 rfl
  rw [e2] at h1
  cases h1
  rw [h] at h2
  cases h2
theorem Good.fresh0 (g : Good Z F σ H env) {p : Addr} (h : H p = none) : Z.H0 p = none := by
  cases q : Z.H0 p with
  | none => rfl
  | some o =>
    rw [g.keep p o q (g.nps h)] at h
    cases h
/-- the frozen part grows by what stands and nobody owns -/
theorem Good.frz (g : Good Z F σ H env) {p : Addr} {o : HO} (h : H p = some o) (hF : F p = none) (h0 : Z.H0 p = none) (hn : ∀ (i : Nat) s, env[i]? = some s → (Own s).isSome = true → σ[i]? ≠ some (some (.ref p))) : Good Z (upd F p o) σ H env where
  ff := g.ff.trans (Ex.new hF)
  fh := fun a u e => by
    by_cases q : a = p
    · subst q
      rw [upd_same] at e
      cases e
      exact h
    · rw [upd_ne q] at e
      exact g.fh a u e
  keep := g.keep
  new := fun a u e n => by
    by_cases q : a = p
    · subst q
      exact h0
    · rw [upd_ne q] at e
      exact g.new a u e n
  len := g.len
  sh := fun i d e => by
    obtain ⟨v, h1, h2⟩ := g.sh i d e
    exact ⟨v, h1, h2.mono (Ex.new hF)⟩
  ow := fun i s ds e1 e2 => by
    obtain ⟨a, vs, h1, h2, h3, h4, h5⟩ := g.ow i s ds e1 e2
    have na : a ≠ p := fun q => by
      subst q
      exact hn i s e1 (by rw [e2]; rfl) h1
    exact ⟨a, vs, h1, h2, by rw [upd_ne na]; exact h3, h4.mono (Ex.new hF), h5⟩
  io := g.io
  nio := g.nio
  pa := g.pa
  dis := g.dis
/-- an object is laid and frozen -/
theorem Good.nown (g : Good Z F σ H env) {p : Addr} (h : H p = none) : ∀ (i : Nat) s, env[i]? = some s → (Own s).isSome = true → σ[i]? ≠ some (some (.ref p)) := fun i s e1 e2 e3 => by
    cases q : Own s with
    | none =>
      rw [q] at e2
      cases e2
    | some ds =>
      obtain ⟨a, vs, h1, h2, _⟩ := g.ow i s ds e1 q
      rw [h1] at e3
      cases e3
      rw [h] at h2
      cases h2
theorem Good.layF (g : Good Z F σ H env) {p : Addr} {o : HO} (h : H p = none) : Good Z (upd F p o) σ (upd H p o) env :=
  (g.lay h).frz upd_same (g.fresh h) (g.fresh0 h) (g.nown h)
theorem upd_fresh {p : Addr} {o : HO} (h : H p = none) : Ex H (upd H p o) := Ex.new h
/-- a value of one's own is given away -/
theorem Good.give (g : Good Z F σ H env) {v : V} {r : R} (h : RepR Z F σ env H v r) : ∃ F1, Good Z F1 σ H env ∧ Ex F F1 ∧ Rep Z.G F1 v r.fz := by
  cases r with
  | sh d => exact ⟨F, g, Ex.refl F, h⟩
  | ow ds =>
    obtain ⟨a, vs, rfl, h1, h2, h3, h4, h5⟩ := h
    exact ⟨upd F a (.lst vs), g.frz h1 h2 h4 h5, Ex.new h2, .lst (.inl (.inl upd_same)) (h3.mono (Ex.new h2))⟩
/-- a new list of one's own -/
theorem Good.mine (g : Good Z F σ H env) {p : Addr} {vs : List V} {ds : List D} (h : H p = none) (r : RepL Z.G F vs ds) : RepR Z F σ env (upd H p (.lst vs)) (.ref p) (.ow ds) :=
  ⟨p, vs, rfl, upd_same, g.fresh h, r, g.fresh0 h, g.nown h⟩
end
end FE

namespace FE
open PySem PySem.Spec PyProof.Rows L2

def noIo : Option SV → Bool
  | some (.io _) => false
  | _ => true

section
variable {Z : Zd} {F F' H H' : Hp} {σ : L2.St} {env : Env}
theorem get_set {α : Type} {l : List α} {i j : Nat} {x y : α} (h : (l.set i x)[j]? = some y) : (i = j ∧ y = x) ∨ (i ≠ j ∧ l[j]? = some y) := by
  by_cases e : i = j
  · subst e
    by_cases hl : i < l.length
    · rw [List.getElem?_set_self hl] at h
      exact .inl ⟨rfl, (Option.some.inj h).symm⟩
    · rw [List.getElem?_eq_none (by rw [List.length_set]; omega)] at h
      cases h
  · rw [List.getElem?_set_ne e] at h
    exact .inr ⟨e, h⟩
/-- a name's value is stored -/
theorem Good.asg (g : Good Z F σ H env) {i : Nat} {v : V} {r : R} (h : RepR Z F σ env H v r) (hi : noIo env[i]? = true) : Good Z F (σ.set i (some v)) H (env.set i r.sv) where
  ff := g.ff
  fh := g.fh
  keep := g.keep
  new := g.new
  len := by rw [List.length_set, List.length_set]; exact g.len
  sh := fun j d e => by
    rcases get_set e with ⟨rfl, e2⟩ | ⟨ne, e⟩
    · have hl : i < σ.length := by
        have := (List.getElem?_eq_some_iff.mp e).1
        rw [List.length_set, g.len] at this
        exact this
      cases r with
      | sh d' =>
        cases e2
        exact ⟨v, List.getElem?_set_self hl, h⟩
      | ow ds => cases e2
    · obtain ⟨w, h1, h2⟩ := g.sh j d e
      exact ⟨w, by rw [List.getElem?_set_ne ne]; exact h1, h2⟩
  ow := fun j s ds e eo => by
    rcases get_set e with ⟨rfl, e2⟩ | ⟨ne, e⟩
    · have hl : i < σ.length := by
        have := (List.getElem?_eq_some_iff.mp e).1
        rw [List.length_set, g.len] at this
        exact this
      subst e2
      cases r with
      | sh d' => cases eo
      | ow ds' =>
        cases eo
        obtain ⟨a, vs, rfl, h1, h2, h3, h4, _⟩ := h
        exact ⟨a, vs, List.getElem?_set_self hl, h1, h2, h3, .inr h4⟩
    · obtain ⟨a, vs, h1, h2, h3, h4, h5⟩ := g.ow j s ds e eo
      exact ⟨a, vs, by rw [List.getElem?_set_ne ne]; exact h1, h2, h3, h4, h5⟩
  io := fun j ds e => by
    rcases get_set e with ⟨rfl, e2⟩ | ⟨ne, e⟩
    · cases r <;> cases e2
    · obtain ⟨a, h1, h2⟩ := g.io j ds e
      exact ⟨a, by rw [List.getElem?_set_ne ne]; exact h1, h2⟩
  nio := fun j ds e a ea => by
    rcases get_set e with ⟨rfl, e2⟩ | ⟨ne, e⟩
    · have hl : i < σ.length := by
        have := (List.getElem?_eq_some_iff.mp e).1
        rw [List.length_set, g.len] at this
        exact this
      cases r with
      | sh d' => cases e2
      | ow ds' =>
        obtain ⟨b, vs, rfl, h1, h2, h3, h4, _⟩ := h
        rw [List.getElem?_set_self hl] at ea
        cases ea
        exact h4
    · rw [List.getElem?_set_ne ne] at ea
      exact g.nio j ds e a ea
  pa := fun a ha => by
    obtain ⟨j, ds, e1, e2⟩ := g.pa a ha
    have ne : i ≠ j := fun q => by
      subst q
      rw [e1] at hi
      cases hi
    exact ⟨j, ds, by rw [List.getElem?_set_ne ne]; exact e1, by rw [List.getElem?_set_ne ne]; exact e2⟩
  dis := fun j k a s t njk ej ek sj sk hj hk => by
    rcases get_set ej with ⟨rfl, e1⟩ | ⟨n1, e1⟩
    · have hl : i < σ.length := by
        have := (List.getElem?_eq_some_iff.mp ej).1
        rw [List.length_set, g.len] at this
        exact this
      rw [List.getElem?_set_self hl] at hj
      rw [List.getElem?_set_ne njk] at hk ek
      subst e1
      cases r with
      | sh d' => cases sj
      | ow ds' =>
        obtain ⟨b, vs, rfl, h1, h2, h3, h4, h5⟩ := h
        cases hj
        exact h5 k t ek sk hk
    · rw [List.getElem?_set_ne n1] at hj
      rcases get_set ek with ⟨rfl, e2⟩ | ⟨n2, e2⟩
      · have hl : i < σ.length := by
          have := (List.getElem?_eq_some_iff.mp ek).1
          rw [List.length_set, g.len] at this
          exact this
        rw [List.getElem?_set_self hl] at hk
        subst e2
        cases r with
        | sh d' => cases sk
        | ow ds' =>
          obtain ⟨b, vs, rfl, h1, h2, h3, h4, h5⟩ := h
          cases hk
          exact h5 j s e1 sj hj
      · rw [List.getElem?_set_ne n2] at hk
        exact g.dis j k a s t njk e1 e2 sj sk hj hk
/-- a slot is known no longer, or known as what does not change -/
theorem Good.less (g : Good Z F σ H env) {i : Nat} {s' : SV} (hi : noIo env[i]? = true) (hs : s' = .no ∨ ∃ d v, s' = .sh d ∧ σ[i]? = some (some v) ∧ Rep Z.G F v d) : Good Z F σ H (env.set i s') where
  ff := g.ff
  fh := g.fh
  keep := g.keep
  new := g.new
  len := by rw [List.length_set]; exact g.len
  sh := fun j d e => by
    rcases get_set e with ⟨rfl, e2⟩ | ⟨ne, e⟩
    · rcases hs with rfl | ⟨d', v, rfl, h1, h2⟩
      · cases e2
      · cases e2
        exact ⟨v, h1, h2⟩
    · exact g.sh j d e
  ow := fun j s ds e eo => by
    rcases get_set e with ⟨rfl, e2⟩ | ⟨ne, e⟩
    · subst e2
      rcases hs with rfl | ⟨d', v, rfl, h1, h2⟩ <;> cases eo
    · exact g.ow j s ds e eo
  io := fun j ds e => by
    rcases get_set e with ⟨rfl, e2⟩ | ⟨ne, e⟩
    · rcases hs with rfl | ⟨d', v, rfl, h1, h2⟩ <;> cases e2
    · exact g.io j ds e
  nio := fun j ds e a ea => by
    rcases get_set e with ⟨rfl, e2⟩ | ⟨ne, e⟩
    · rcases hs with rfl | ⟨d', v, rfl, h1, h2⟩ <;> cases e2
    · exact g.nio j ds e a ea
  pa := fun a ha => by
    obtain ⟨j, ds, e1, e2⟩ := g.pa a ha
    have ne : i ≠ j := fun q => by
      subst q
      rw [e1] at hi
      cases hi
    exact ⟨j, ds, by rw [List.getElem?_set_ne ne]; exact e1, e2⟩
  dis := fun j k a s t njk ej ek sj sk hj hk => by
    rcases get_set ej with ⟨rfl, e1⟩ | ⟨n1, e1⟩
    · subst e1
      rcases hs with rfl | ⟨d', v, rfl, h1, h2⟩ <;> cases sj
    · rcases get_set ek with ⟨rfl, e2⟩ | ⟨n2, e2⟩
      · subst e2
        rcases hs with rfl | ⟨d', v, rfl, h1, h2⟩ <;> cases sk
      · exact g.dis j k a s t njk e1 e2 sj sk hj hk
/-- the slot's own list is given away -/
theorem Good.frzAt (g : Good Z F σ H env) {i : Nat} {ds : List D} (h : env[i]? = some (.ow ds)) : ∃ a vs, σ[i]? = some (some (.ref a)) ∧ Rep Z.G (upd F a (.lst vs)) (.ref a) (.lst ds) ∧ Ex F (upd F a (.lst vs)) ∧ Good Z (upd F a (.lst vs)) σ H (env.set i (.sh (.lst ds))) := by
  obtain ⟨a, vs, h1, h2, h3, h4, h5⟩ := g.ow i _ ds h rfl
  have n0 : noIo env[i]? = true := by rw [h]; rfl
  have g1 := g.less (s' := .no) n0 (.inl rfl)
  have z0 : Z.H0 a = none := g.nio i ds h a h1
  have rp : Rep Z.G (upd F a (.lst vs)) (.ref a) (.lst ds) := .lst (.inl (.inl upd_same)) (h4.mono (Ex.new h3))
  have g2 := g1.frz (p := a) (o := .lst vs) h2 h3 z0 (fun j s e1 e2 e3 => by
    rcases get_set e1 with ⟨rfl, q⟩ | ⟨ne, q⟩
    · subst q
      cases e2
    · exact g.dis i j a _ s ne h q rfl e2 h1 e3)
  have g3 := g2.less (i := i) (s' := .sh (.lst ds)) (by
    by_cases hl : i < env.length
    · rw [List.getElem?_set_self hl]; rfl
    · rw [List.getElem?_eq_none (by rw [List.length_set]; omega)]; rfl) (.inr ⟨_, _, rfl, h1, rp⟩)
  rw [List.set_set] at g3
  exact ⟨a, vs, h1, rp, Ex.new h3, g3⟩
end

/-! ### readings by the machine -/
def RepX (Z : Zd) (F : Hp) (cls : Value) (d : Option Addr) (x : Xc) : Prop :=
  Z.C x.cls cls ∧ (x.bears ≠ [] → ∃ dx vs, d = some dx ∧ F dx = some (.xd ((x.bears.map (·.1)).zip vs)) ∧ RepL Z.G F vs (x.bears.map (·.2)))
def PostX (Z : Zd) (F : Hp) (σ : L2.St) (x : Xc) (env' : Env) : Prop := ∀ cls d H' F', Good Z F' σ H' env' → Ex F F' → RepX Z F' cls d x → Z.W cls d σ H'
def PostE (Z : Zd) (F : Hp) (σ : L2.St) (Q : VK) : OE → Prop
  | .ok r env' => ∀ v H' F', Good Z F' σ H' env' → Ex F F' → RepR Z F' σ env' H' v r → Q v H'
  | .exc x env' => PostX Z F σ x env'
  | .bad => False
def PostT (Z : Zd) (F : Hp) (σ : L2.St) (Q : Bool → Hp → Prop) : OT → Prop
  | .ok r env' => ∀ H' F', Good Z F' σ H' env' → Ex F F' → Q r H'
  | .exc x env' => PostX Z F σ x env'
  | .bad => False
def PostA (Z : Zd) (F : Hp) (σ : L2.St) (Q : List V → Hp → Prop) : OA → Prop
  | .ok ds env' => ∀ vs H' F', Good Z F' σ H' env' → Ex F F' → RepL Z.G F' vs ds → Q vs H'
  | .exc x env' => PostX Z F σ x env'
  | .bad => False
def tE (Z : Zd) (o : Env → OE) : TE := fun σ H Q => ∃ F env, Good Z F σ H env ∧ PostE Z F σ Q (o env)
def tT (Z : Zd) (o : Env → OT) : TT := fun σ H Q => ∃ F env, Good Z F σ H env ∧ PostT Z F σ Q (o env)
def tA (Z : Zd) (o : Env → OA) : TA := fun σ H Q => ∃ F env, Good Z F σ H env ∧ PostA Z F σ Q (o env)

theorem PE.imp {X : Cx} {e : Expr} {t t' : TE} (h : PE X e t) (i : ∀ σ H Q, t' σ H Q → t σ H Q) : PE X e t' := ⟨fun pins s σ H Q I q => h.run pins s σ H Q I (i σ H Q q)⟩
theorem PT.imp {X : Cx} {e : Expr} {t t' : TT} (h : PT X e t) (i : ∀ σ H Q, t' σ H Q → t σ H Q) : PT X e t' := ⟨fun pins s σ H Q I q => h.run pins s σ H Q I (i σ H Q q)⟩
theorem PW.imp {X : Cx} {e : Expr} {t t' : TT} (h : PW X e t) (i : ∀ σ H Q, t' σ H Q → t σ H Q) : PW X e t' := ⟨fun w pins s σ H Q I q => h.run w pins s σ H Q I (i σ H Q q)⟩
theorem PA.imp {X : Cx} {e : List Expr} {t t' : TA} (h : PA X e t) (i : ∀ σ H Q, t' σ H Q → t σ H Q) : PA X e t' := ⟨fun p pins s σ H Q I q => h.run p pins s σ H Q I (i σ H Q q)⟩
theorem PS.imp {X : Cx} {e : Stmt} {t t' : TS} (h : PS X e t) (i : ∀ D σ H, t' D σ H → t D σ H) : PS X e t' := ⟨fun pins s σ H D I q => h.run pins s σ H D I (i D σ H q)⟩
theorem PSs.imp {X : Cx} {e : List Stmt} {t t' : TS} (h : PSs X e t) (i : ∀ D σ H, t' D σ H → t D σ H) : PSs X e t' := ⟨fun pins s σ H D I q => h.run pins s σ H D I (i D σ H q)⟩
theorem PE.or {X : Cx} {e : Expr} {t t' : TE} (h : PE X e t) (h' : PE X e t') : PE X e (fun σ H Q => t σ H Q ∨ t' σ H Q) := ⟨fun pins s σ H Q I q => q.elim (h.run pins s σ H Q I) (h'.run pins s σ H Q I)⟩
theorem PI.or {X : Cx} {tg e : Expr} {t t' : TI} (h : PI X tg e t) (h' : PI X tg e t') : PI X tg e (fun σ H Q => t σ H Q ∨ t' σ H Q) := ⟨fun pins s σ H Q I q => q.elim (h.run pins s σ H Q I) (h'.run pins s σ H Q I)⟩
theorem PI.imp {X : Cx} {tg e : Expr} {t t' : TI} (h : PI X tg e t) (i : ∀ σ H Q, t' σ H Q → t σ H Q) : PI X tg e t' := ⟨fun pins s σ H Q I q => h.run pins s σ H Q I (i σ H Q q)⟩

section
variable {Z : Zd} {F F' F1 H H' : Hp} {σ : L2.St} {env : Env} {Q : VK} {QT : Bool → Hp → Prop} {QA : List V → Hp → Prop}
theorem PostX.up {x : Xc} {env' : Env} (e : Ex F F1) (h : PostX Z F σ x env') : PostX Z F1 σ x env' := fun cls d H' F' g x => h cls d H' F' g (e.trans x)
theorem PostE.up {o : OE} (e : Ex F F1) (h : PostE Z F σ Q o) : PostE Z F1 σ Q o := by
  cases o with
  | ok r env' => exact fun v H' F' g x => h v H' F' g (e.trans x)
  | exc x env' => exact PostX.up e h
  | bad => exact h
theorem PostT.up {o : OT} (e : Ex F F1) (h : PostT Z F σ QT o) : PostT Z F1 σ QT o := by
  cases o with
  | ok r env' => exact fun H' F' g x => h H' F' g (e.trans x)
  | exc x env' => exact PostX.up e h
  | bad => exact h
theorem PostA.up {o : OA} (e : Ex F F1) (h : PostA Z F σ QA o) : PostA Z F1 σ QA o := by
  cases o with
  | ok r env' => exact fun vs H' F' g x => h vs H' F' g (e.trans x)
  | exc x env' => exact PostX.up e h
  | bad => exact h
/-- an expression, then the rest: the value given away -/
theorem seqE {o : Env → OE} {f : R → Env → OE} {k : VK} (g : Good Z F σ H env) (h : PostE Z F σ Q ((o env).bind f))
    (c : ∀ r env1 v H1 F1, Good Z F1 σ H1 env1 → Ex F F1 → Rep Z.G F1 v r.fz → PostE Z F1 σ Q (f r env1) → k v H1) : tE Z o σ H k := by
  refine ⟨F, env, g, ?_⟩
  cases e : o env with
  | ok r env1 =>
    rw [e] at h
    intro v H1 F1 g1 x1 r1
    obtain ⟨F2, g2, x2, r2⟩ := g1.give r1
    exact c r env1 v H1 F2 g2 (x1.trans x2) r2 (PostE.up (x1.trans x2) h)
  | exc x env1 =>
    rw [e] at h
    exact h
  | bad =>
    rw [e] at h
    exact h
theorem seqET {o : Env → OE} {f : R → Env → OT} {k : VK} (g : Good Z F σ H env) (h : PostT Z F σ QT ((o env).bindT f))
    (c : ∀ r env1 v H1 F1, Good Z F1 σ H1 env1 → Ex F F1 → Rep Z.G F1 v r.fz → PostT Z F1 σ QT (f r env1) → k v H1) : tE Z o σ H k := by
  refine ⟨F, env, g, ?_⟩
  cases e : o env with
  | ok r env1 =>
    rw [e] at h
    intro v H1 F1 g1 x1 r1
    obtain ⟨F2, g2, x2, r2⟩ := g1.give r1
    exact c r env1 v H1 F2 g2 (x1.trans x2) r2 (PostT.up (x1.trans x2) h)
  | exc x env1 =>
    rw [e] at h
    exact h
  | bad =>
    rw [e] at h
    exact h
theorem seqEA {o : Env → OE} {f : R → Env → OA} {k : VK} (g : Good Z F σ H env) (h : PostA Z F σ QA ((o env).bindA f))
    (c : ∀ r env1 v H1 F1, Good Z F1 σ H1 env1 → Ex F F1 → Rep Z.G F1 v r.fz → PostA Z F1 σ QA (f r env1) → k v H1) : tE Z o σ H k := by
  refine ⟨F, env, g, ?_⟩
  cases e : o env with
  | ok r env1 =>
    rw [e] at h
    intro v H1 F1 g1 x1 r1
    obtain ⟨F2, g2, x2, r2⟩ := g1.give r1
    exact c r env1 v H1 F2 g2 (x1.trans x2) r2 (PostA.up (x1.trans x2) h)
  | exc x env1 =>
    rw [e] at h
    exact h
  | bad =>
    rw [e] at h
    exact h
theorem seqTE {o : Env → OT} {f : Bool → Env → OE} {k : Bool → Hp → Prop} (g : Good Z F σ H env) (h : PostE Z F σ Q ((o env).bindE f))
    (c : ∀ b env1 H1 F1, Good Z F1 σ H1 env1 → Ex F F1 → PostE Z F1 σ Q (f b env1) → k b H1) : tT Z o σ H k := by
  refine ⟨F, env, g, ?_⟩
  cases e : o env with
  | ok r env1 =>
    rw [e] at h
    exact fun H1 F1 g1 x1 => c r env1 H1 F1 g1 x1 (PostE.up x1 h)
  | exc x env1 =>
    rw [e] at h
    exact h
  | bad =>
    rw [e] at h
    exact h
theorem seqTT {o : Env → OT} {f : Bool → Env → OT} {k : Bool → Hp → Prop} (g : Good Z F σ H env) (h : PostT Z F σ QT ((o env).bind f))
    (c : ∀ b env1 H1 F1, Good Z F1 σ H1 env1 → Ex F F1 → PostT Z F1 σ QT (f b env1) → k b H1) : tT Z o σ H k := by
  refine ⟨F, env, g, ?_⟩
  cases e : o env with
  | ok r env1 =>
    rw [e] at h
    exact fun H1 F1 g1 x1 => c r env1 H1 F1 g1 x1 (PostT.up x1 h)
  | exc x env1 =>
    rw [e] at h
    exact h
  | bad =>
    rw [e] at h
    exact h
theorem seqAE {o : Env → OA} {f : List D → Env → OE} {k : List V → Hp → Prop} (g : Good Z F σ H env) (h : PostE Z F σ Q ((o env).bindE f))
    (c : ∀ ds env1 vs H1 F1, Good Z F1 σ H1 env1 → Ex F F1 → RepL Z.G F1 vs ds → PostE Z F1 σ Q (f ds env1) → k vs H1) : tA Z o σ H k := by
  refine ⟨F, env, g, ?_⟩
  cases e : o env with
  | ok r env1 =>
    rw [e] at h
    exact fun vs H1 F1 g1 x1 r1 => c r env1 vs H1 F1 g1 x1 r1 (PostE.up x1 h)
  | exc x env1 =>
    rw [e] at h
    exact h
  | bad =>
    rw [e] at h
    exact h
theorem seqAA {o : Env → OA} {f : List D → Env → OA} {k : List V → Hp → Prop} (g : Good Z F σ H env) (h : PostA Z F σ QA ((o env).bind f))
    (c : ∀ ds env1 vs H1 F1, Good Z F1 σ H1 env1 → Ex F F1 → RepL Z.G F1 vs ds → PostA Z F1 σ QA (f ds env1) → k vs H1) : tA Z o σ H k := by
  refine ⟨F, env, g, ?_⟩
  cases e : o env with
  | ok r env1 =>
    rw [e] at h
    exact fun vs H1 F1 g1 x1 r1 => c r env1 vs H1 F1 g1 x1 r1 (PostA.up x1 h)
  | exc x env1 =>
    rw [e] at h
    exact h
  | bad =>
    rw [e] at h
    exact h
end

/-! ### the machine's expressions and their nodes -/
def oVar (i : Nat) : Env → OE := fun env => match env[i]? with
  | some (.sh d) => .ok (.sh d) env
  | some (.ow ds) => .ok (.sh (.lst ds)) (env.set i (.sh (.lst ds)))
  | _ => .bad
def oC (d : D) : Env → OE := fun env => .ok (.sh d) env
def oOp2 (f : D → D → Option R) (oa ob : Env → OE) : Env → OE := fun env => (oa env).bind fun r1 e1 => (ob e1).bind fun r2 e2 => match f r1.fz r2.fz with
  | some z => .ok z e2
  | none => .bad
def oUn (f : D → Option R) (oa : Env → OE) : Env → OE := fun env => (oa env).bind fun r1 e1 => match f r1.fz with
  | some z => .ok z e1
  | none => .bad
def oAnd (oa ob : Env → OE) : Env → OE := fun env => (oa env).bind fun r e1 => match r.fz with
  | .bl true => ob e1
  | .bl false => .ok (.sh (.bl false)) e1
  | _ => .bad
def oOr (oa ob : Env → OE) : Env → OE := fun env => (oa env).bind fun r e1 => match r.fz with
  | .bl true => .ok (.sh (.bl true)) e1
  | .bl false => ob e1
  | _ => .bad
def oNot (oa : Env → OE) : Env → OE := fun env => (oa env).bind fun r e1 => match r.fz with
  | .bl b => .ok (.sh (.bl (!b))) e1
  | _ => .bad
def oIf (ot : Env → OT) (oa ob : Env → OE) : Env → OE := fun env => (ot env).bindE fun b e1 => if b = true then oa e1 else ob e1
def oNil : Env → OA := fun env => .ok [] env
def oCons (oa : Env → OE) (os : Env → OA) : Env → OA := fun env => (oa env).bindA fun r e1 => (os e1).bind fun ds e2 => .ok (r.fz :: ds) e2
def oTup (os : Env → OA) : Env → OE := fun env => (os env).bindE fun ds e1 => if ds.length ≤ 1000000 then .ok (.sh (.tup ds)) e1 else .bad
def oLst (os : Env → OA) : Env → OE := fun env => (os env).bindE fun ds e1 => if ds.length ≤ 1000000 then .ok (.ow ds) e1 else .bad
def oCallB (f : List D → Option R) (os : Env → OA) : Env → OE := fun env => (os env).bindE fun ds e1 => match f ds with
  | some z => .ok z e1
  | none => .bad
/-- truth of plain data -/
def truD : D → Option Bool
  | .non => some false
  | .bl b => some b
  | .int i => some (i != 0)
  | .str x => some (x.length != 0)
  | .tup ds => some (!ds.isEmpty)
  | .lst ds => some (!ds.isEmpty)
  | _ => none
def oTru (oa : Env → OE) : Env → OT := fun env => (oa env).bindT fun r e1 => match r.fz with
  | .bl b => .ok b e1
  | _ => .bad
def oTAnd (oa ob : Env → OT) : Env → OT := fun env => (oa env).bind fun b e1 => if b = true then ob e1 else .ok false e1
def oTOr (oa ob : Env → OT) : Env → OT := fun env => (oa env).bind fun b e1 => if b = true then .ok true e1 else ob e1
def oTNot (oa : Env → OT) : Env → OT := fun env => (oa env).bind fun b e1 => .ok (!b) e1
/-- a op b op' c -/
def oChain (f f' : D → D → Option R) (oa ob oc : Env → OE) : Env → OE := fun env => (oa env).bind fun r1 e1 => (ob e1).bind fun r2 e2 => match f r1.fz r2.fz with
  | some (.sh (.bl true)) => (oc e2).bind fun r3 e3 => match f' r2.fz r3.fz with
    | some z => .ok z e3
    | none => .bad
  | some (.sh (.bl false)) => .ok (.sh (.bl false)) e2
  | _ => .bad

/-- an operation by values does what the machine's does -/
def SOp (G : Gd) (r : R2) (f : D → D → Option R) : Prop := ∀ (Z : Zd) (F : Hp) (σ : L2.St) (H : Hp) (env : Env) (x y : V) (d e : D) (z : R) (Q : VK), Z.G = G → Good Z F σ H env → Rep Z.G F x d → Rep Z.G F y e → f d e = some z →
  (∀ v H' F', Good Z F' σ H' env → Ex F F' → RepR Z F' σ env H' v z → Q v H') → r x y H Q
def SUn (G : Gd) (r : V → Hp → VK → Prop) (f : D → Option R) : Prop := ∀ (Z : Zd) (F : Hp) (σ : L2.St) (H : Hp) (env : Env) (x : V) (d : D) (z : R) (Q : VK), Z.G = G → Good Z F σ H env → Rep Z.G F x d → f d = some z →
  (∀ v H' F', Good Z F' σ H' env → Ex F F' → RepR Z F' σ env H' v z → Q v H') → r x H Q
def SCall (G : Gd) (r : List V → Hp → VK → Prop) (f : List D → Option R) : Prop := ∀ (Z : Zd) (F : Hp) (σ : L2.St) (H : Hp) (env : Env) (xs : List V) (ds : List D) (z : R) (Q : VK), Z.G = G → Good Z F σ H env → RepL Z.G F xs ds → f ds = some z →
  (∀ v H' F', Good Z F' σ H' env → Ex F F' → RepR Z F' σ env H' v z → Q v H') → r xs H Q

section
variable {X : Cx} {Z : Zd} {a b c : Expr} {oa ob oc : Env → OE} {ta tb : Env → OT} {os : Env → OA} {es : List Expr} {pos : Pos}
theorem n_var (i : Nat) {x : PySem.Str} {pos : Pos} (hN : X.N[i]? = some x := by rfl) (hv : Vis X.env.scope x := by first | exact Or.inl rfl | exact Or.inr (Or.inl rfl) | exact Or.inr (Or.inr rfl)) (hd : (x == ("__debug__" : PySem.Str)) = false := by decide)
    (hcd : (x == ("__classdict__" : PySem.Str)) = false := by decide) : PE X (.Name x pos) (tE Z (oVar i)) := by
  refine PE.imp (pe_var hN hv hd hcd) fun σ H Q ⟨F, env, g, h⟩ => ?_
  unfold oVar at h
  cases e : env[i]? with
  | none =>
    rw [e] at h
    exact h.elim
  | some s =>
    rw [e] at h
    cases s with
    | sh d =>
      obtain ⟨v, h1, h2⟩ := g.sh i d e
      exact ⟨v, h1, h v H F g (Ex.refl F) h2⟩
    | ow ds =>
      obtain ⟨a, vs, h1, h2, h3, h4⟩ := g.frzAt e
      exact ⟨.ref a, h1, h (.ref a) H _ h4 h3 h2⟩
    | no => exact h.elim
    | io ds => exact h.elim
theorem n_c {v : V} {d : D} {e : Expr} (h : PE X e (tC v)) (r : ∀ F, Rep Z.G F v d) : PE X e (tE Z (oC d)) :=
  PE.imp h fun σ H Q ⟨F, env, g, q⟩ => q v H F g (Ex.refl F) (r F)
theorem n_int {i j pos} : PE X (.Constant (.int i) j pos) (tE Z (oC (.int i))) := n_c pe_int fun _ => .int i
theorem n_bl {i j pos} : PE X (.Constant (.bool i) j pos) (tE Z (oC (.bl i))) := n_c pe_bl fun _ => .bl i
theorem n_non {j pos} : PE X (.Constant .none j pos) (tE Z (oC .non)) := n_c pe_non fun _ => .non
theorem n_str {x j pos} : PE X (.Constant (.str x) j pos) (tE Z (oC (.str x))) := n_c pe_str fun _ => .str x
theorem op2_to {r : R2} {f : D → D → Option R} (hs : SOp Z.G r f) {σ : L2.St} {H : Hp} {Q : VK} (h : tE Z (oOp2 f oa ob) σ H Q) : tOp r (tE Z oa) (tE Z ob) σ H Q := by
  obtain ⟨F, env, g, h⟩ := h
  refine seqE g h fun r1 env1 v1 H1 F1 g1 x1 rp1 h1 => ?_
  refine seqE g1 h1 fun r2 env2 v2 H2 F2 g2 x2 rp2 h2 => ?_
  cases e : f r1.fz r2.fz with
  | none =>
    rw [e] at h2
    exact h2.elim
  | some z =>
    rw [e] at h2
    exact hs Z F2 σ H2 env2 v1 v2 _ _ z Q rfl g2 (rp1.mono x2) rp2 e h2
theorem n_bin {op : Operator} {r : R2} {f : D → D → Option R} (ho : OpR X (binaryOp op) r) (hs : SOp Z.G r f) (ha : PE X a (tE Z oa)) (hb : PE X b (tE Z ob)) : PE X (.BinOp a op b pos) (tE Z (oOp2 f oa ob)) :=
  PE.imp (pe_op ho ha hb) fun σ H Q h => op2_to hs h
theorem n_cmp {op : CmpOp} {r : R2} {f : D → D → Option R} (ho : OpR X (compareOp op) r) (hs : SOp Z.G r f) (ha : PE X a (tE Z oa)) (hb : PE X b (tE Z ob)) (hm : behindInMarks op b = false := by rfl) : PE X (.Compare a [op] [b] pos) (tE Z (oOp2 f oa ob)) :=
  PE.imp (pe_cmpR ho ha hb hm) fun σ H Q h => op2_to hs h
theorem n_ix {r : R2} {f : D → D → Option R} (ho : IxR X r) (hs : SOp Z.G r f) (ha : PE X a (tE Z oa)) (hb : PE X b (tE Z ob)) (hp : PlainIx b := by exact fun _ _ => rfl) : PE X (.Subscript a b pos) (tE Z (oOp2 f oa ob)) :=
  PE.imp (pe_ix ho ha hb hp) fun σ H Q h => op2_to hs h
theorem n_un {op : UnaryOp} {r : V → Hp → VK → Prop} {f : D → Option R} (ho : UnR X (unaryOp op) r) (hs : SUn Z.G r f) (ha : PE X a (tE Z oa)) : PE X (.UnaryOp op a pos) (tE Z (oUn f oa)) := by
  refine PE.imp (pe_un ho ha) fun σ H Q ⟨F, env, g, h⟩ => ?_
  refine seqE g h fun r1 env1 v1 H1 F1 g1 x1 rp1 h1 => ?_
  cases e : f r1.fz with
  | none =>
    rw [e] at h1
    exact h1.elim
  | some z =>
    rw [e] at h1
    exact hs Z F1 σ H1 env1 v1 _ z Q rfl g1 rp1 e h1
theorem bl_of {G : Gd} {F : Hp} {v : V} {b : Bool} (h : Rep G F v (.bl b)) : v = .bl b := by
  cases h
  rfl
theorem n_and {rest : List Expr} (ha : PE X a (tE Z oa)) (hb : PE X (.BoolOp .And (b :: rest) pos) (tE Z ob)) : PE X (.BoolOp .And (a :: b :: rest) pos) (tE Z (oAnd oa ob)) := by
  refine PE.imp (pe_and ha hb) fun σ H Q ⟨F, env, g, h⟩ => ?_
  refine seqE g h fun r1 env1 v1 H1 F1 g1 x1 rp1 h1 => ?_
  generalize r1.fz = d at h1 rp1
  cases d <;> try exact h1.elim
  rename_i k
  obtain rfl := bl_of rp1
  refine ⟨k, rfl, ?_⟩
  cases k with
  | true => exact ⟨F1, env1, g1, h1⟩
  | false => exact h1 _ H1 F1 g1 (Ex.refl F1) (.bl false)
theorem n_or {rest : List Expr} (ha : PE X a (tE Z oa)) (hb : PE X (.BoolOp .Or (b :: rest) pos) (tE Z ob)) : PE X (.BoolOp .Or (a :: b :: rest) pos) (tE Z (oOr oa ob)) := by
  refine PE.imp (pe_or ha hb) fun σ H Q ⟨F, env, g, h⟩ => ?_
  refine seqE g h fun r1 env1 v1 H1 F1 g1 x1 rp1 h1 => ?_
  generalize r1.fz = d at h1 rp1
  cases d <;> try exact h1.elim
  rename_i k
  obtain rfl := bl_of rp1
  refine ⟨k, rfl, ?_⟩
  cases k with
  | false => exact ⟨F1, env1, g1, h1⟩
  | true => exact h1 _ H1 F1 g1 (Ex.refl F1) (.bl true)
theorem n_one {op : BoolOp} (ha : PE X a (tE Z oa)) : PE X (.BoolOp op [a] pos) (tE Z oa) := pe_one ha
theorem n_not (ha : PE X a (tE Z oa)) : PE X (.UnaryOp .Not a pos) (tE Z (oNot oa)) := by
  refine PE.imp (pe_not ha) fun σ H Q ⟨F, env, g, h⟩ => ?_
  refine seqE g h fun r1 env1 v1 H1 F1 g1 x1 rp1 h1 => ?_
  generalize r1.fz = d at h1 rp1
  cases d <;> try exact h1.elim
  rename_i k
  obtain rfl := bl_of rp1
  exact ⟨k, rfl, h1 _ H1 F1 g1 (Ex.refl F1) (.bl (!k))⟩
theorem n_if (hc : PT X c (tT Z ta)) (ha : PE X a (tE Z oa)) (hb : PE X b (tE Z ob)) : PE X (.IfExp c a b pos) (tE Z (oIf ta oa ob)) := by
  refine PE.imp (pe_ifExp hc ha hb) fun σ H Q ⟨F, env, g, h⟩ => ?_
  refine seqTE g h fun k env1 H1 F1 g1 x1 h1 => ?_
  cases k with
  | true => exact ⟨F1, env1, g1, h1⟩
  | false => exact ⟨F1, env1, g1, h1⟩
theorem n_nil : PA X [] (tA Z oNil) := PA.imp pa_nil fun σ H Q ⟨F, env, g, h⟩ => h [] H F g (Ex.refl F) .nil
theorem n_cons (ha : PE X a (tE Z oa)) (hr : PA X es (tA Z os)) (hs : starEach (a :: es) X.env = (false, eval a X.env) :: starEach es X.env := by rfl) : PA X (a :: es) (tA Z (oCons oa os)) := by
  refine PA.imp (pa_cons ha hr hs) fun σ H Q ⟨F, env, g, h⟩ => ?_
  refine seqEA g h fun r1 env1 v1 H1 F1 g1 x1 rp1 h1 => ?_
  refine seqAA g1 h1 fun ds env2 vs H2 F2 g2 x2 rp2 h2 => ?_
  exact h2 (v1 :: vs) H2 F2 g2 (Ex.refl F2) (.cons (rp1.mono x2) rp2)
theorem big_line : (1000000 : Nat) ≤ sizeLine := by
  rw [sizeLine_eq]
  decide
def tTupN (t : TA) : TE := fun σ H Q => t σ H fun xs H1 => xs.length ≤ sizeLine ∧ ∀ (p : Addr) (o : Obj), H1 p = none → o.dict = none → Q (.ref p) (upd H1 p (.frz o (.tup xs)))
theorem pe_tupN {t : TA} {x1} (h : PA X es t) : PE X (.Tuple es x1 pos) (tTupN t) := by
  refine ⟨fun pins s σ H Q I hq => ?_⟩
  refine wpAny_Tuple_spliced (thn (h.run pos pins s σ H _ I hq) fun us s1 ⟨xs, H1, I1, r, z, q⟩ => ⟨by rw [← r.length]; exact z, ?_⟩)
  refine ⟨.ref s1.heap.objs.size, _, I1.laid (t' := s1.toks) (o := .frz { cls := .type "tuple", data := .seq us.toArray } (.tup xs)) (fun b u e => Heap.get?_push_of_some _ e) (Nat.le_refl _) ?_, rfl, q _ _ (I1.hok.fresh (Nat.le_refl _)) rfl⟩
  exact ⟨Heap.get?_push_size _ rfl, z, us, r, ⟨_, Heap.get?_push_size _ rfl, rfl, _, rfl⟩⟩
theorem n_tup {x1} (h : PA X es (tA Z os)) : PE X (.Tuple es x1 pos) (tE Z (oTup os)) := by
  refine PE.imp (pe_tupN h) fun σ H Q ⟨F, env, g, q⟩ => ?_
  refine seqAE g q fun ds env1 vs H1 F1 g1 x1 rp h1 => ?_
  by_cases hl : ds.length ≤ 1000000
  · rw [if_pos hl] at h1
    refine ⟨Nat.le_trans (by rw [rp.length]; exact hl) big_line, fun p o hp ho => ?_⟩
    exact h1 _ _ _ (g1.layF hp) (Ex.new (g1.fresh hp)) (.tup (.new ho) (rp.mono (Ex.new (g1.fresh hp))))
  · rw [if_neg hl] at h1
    exact h1.elim
theorem n_lst (h : PA X es (tA Z os)) : PE X (.List es pos) (tE Z (oLst os)) := by
  refine PE.imp (pe_lst h) fun σ H Q ⟨F, env, g, q⟩ => ?_
  refine seqAE g q fun ds env1 vs H1 F1 g1 x1 rp h1 => ?_
  by_cases hl : ds.length ≤ 1000000
  · rw [if_pos hl] at h1
    refine ⟨Nat.le_trans (by rw [rp.length]; exact hl) big_line, fun p hp => ?_⟩
    exact h1 _ _ _ (g1.lay hp) (Ex.refl F1) (g1.mine hp rp)
  · rw [if_neg hl] at h1
    exact h1.elim
theorem callB_to {r : List V → Hp → VK → Prop} {f : List D → Option R} (hs : SCall Z.G r f) {σ : L2.St} {H : Hp} {Q : VK} (h : tE Z (oCallB f os) σ H Q) : tCB r (tA Z os) σ H Q := by
  obtain ⟨F, env, g, h⟩ := h
  refine seqAE g h fun ds env1 vs H1 F1 g1 x1 rp h1 => ?_
  cases e : f ds with
  | none =>
    rw [e] at h1
    exact h1.elim
  | some z =>
    rw [e] at h1
    exact hs Z F1 σ H1 env1 vs ds z Q rfl g1 rp e h1
/-! tests -/
theorem n_tru (ha : PE X a (tE Z oa)) (he : ∀ whole, isTrue a X.env whole = (do let v ← whole; standAt a.pos; holding [v] (truthy v)) := by intro _; rfl) : PT X a (tT Z (oTru oa)) := by
  refine PT.imp (pt_truth ha he) fun σ H Q ⟨F, env, g, h⟩ => ?_
  refine seqET g h fun r1 env1 v1 H1 F1 g1 x1 rp1 h1 => ?_
  generalize r1.fz = d at h1 rp1
  cases d <;> try exact h1.elim
  rename_i k
  obtain rfl := bl_of rp1
  exact ⟨k, rfl, h1 H1 F1 g1 (Ex.refl F1)⟩
theorem test_to {σ : L2.St} {H : Hp} {Q : Bool → Hp → Prop} (h : tT Z (oTru oa) σ H Q) : tTest (tE Z oa) σ H Q := by
  obtain ⟨F, env, g, h⟩ := h
  refine seqET g h fun r1 env1 v1 H1 F1 g1 x1 rp1 h1 => ?_
  generalize r1.fz = d at h1 rp1
  cases d <;> try exact h1.elim
  rename_i k
  obtain rfl := bl_of rp1
  exact ⟨k, rfl, h1 H1 F1 g1 (Ex.refl F1)⟩
/-- a comparison as a test -/
theorem n_tcmp {op : CmpOp} {r : R2} {f : D → D → Option R} (ho : OpR X (compareOp op) r) (hs : SOp Z.G r f) (ha : PE X a (tE Z oa)) (hb : PE X b (tE Z ob)) (hm : behindInMarks op b = false := by rfl) : PT X (.Compare a [op] [b] pos) (tT Z (oTru (oOp2 f oa ob))) := by
  refine PT.imp (pt_cmpR ho ha hb hm) fun σ H Q h => ?_
  obtain ⟨F, env, g, h⟩ := test_to h
  exact op2_to hs ⟨F, env, g, h⟩
theorem n_tnot (ha : PT X a (tT Z ta)) : PT X (.UnaryOp .Not a pos) (tT Z (oTNot ta)) := by
  refine PT.imp (pt_not ha) fun σ H Q ⟨F, env, g, h⟩ => ?_
  exact seqTT g h fun k env1 H1 F1 g1 x1 h1 => h1 H1 F1 g1 (Ex.refl F1)
theorem n_tand {rest : List Expr} (ha : PT X a (tT Z ta)) (hb : PW X (.BoolOp .And (b :: rest) pos) (tT Z tb)) : PW X (.BoolOp .And (a :: b :: rest) pos) (tT Z (oTAnd ta tb)) := by
  refine PW.imp (pw_and ha hb) fun σ H Q ⟨F, env, g, h⟩ => ?_
  refine seqTT g h fun k env1 H1 F1 g1 x1 h1 => ?_
  cases k with
  | true => exact ⟨F1, env1, g1, h1⟩
  | false => exact h1 H1 F1 g1 (Ex.refl F1)
theorem n_tor {rest : List Expr} (ha : PT X a (tT Z ta)) (hb : PW X (.BoolOp .Or (b :: rest) pos) (tT Z tb)) : PW X (.BoolOp .Or (a :: b :: rest) pos) (tT Z (oTOr ta tb)) := by
  refine PW.imp (pw_or ha hb) fun σ H Q ⟨F, env, g, h⟩ => ?_
  refine seqTT g h fun k env1 H1 F1 g1 x1 h1 => ?_
  cases k with
  | false => exact ⟨F1, env1, g1, h1⟩
  | true => exact h1 H1 F1 g1 (Ex.refl F1)
theorem n_tand1 (ha : PT X a (tT Z ta)) : PW X (.BoolOp .And [a] pos) (tT Z ta) := pw_and1 ha
theorem n_tor1 (ha : PT X a (tT Z ta)) : PW X (.BoolOp .Or [a] pos) (tT Z ta) := pw_or1 ha
theorem chain_to {r r' : R2} {f f' : D → D → Option R} (hs : SOp Z.G r f) (hs' : SOp Z.G r' f') {σ : L2.St} {H : Hp} {Q : VK} (h : tE Z (oChain f f' oa ob oc) σ H Q) : tChain r r' (tE Z oa) (tE Z ob) (tE Z oc) σ H Q := by
  obtain ⟨F, env, g, h⟩ := h
  refine seqE g h fun r1 env1 v1 H1 F1 g1 x1 rp1 h1 => ?_
  refine seqE g1 h1 fun r2 env2 v2 H2 F2 g2 x2 rp2 h2 => ?_
  cases e : f r1.fz r2.fz with
  | none =>
    rw [e] at h2
    exact h2.elim
  | some z =>
    rw [e] at h2
    refine hs Z F2 σ H2 env2 v1 v2 _ _ z _ rfl g2 (rp1.mono x2) rp2 e fun v H3 F3 g3 x3 rp3 => ?_
    cases z with
    | ow ds => exact h2.elim
    | sh d =>
      cases d <;> try exact h2.elim
      rename_i k
      obtain rfl := bl_of rp3
      refine ⟨k, rfl, ?_⟩
      cases k with
      | true =>
        refine seqE g3 (PostE.up x3 h2) fun r4 env4 v4 H4 F4 g4 x4 rp4 h4 => ?_
        cases e' : f' r2.fz r4.fz with
        | none =>
          rw [e'] at h4
          exact h4.elim
        | some z' =>
          rw [e'] at h4
          exact hs' Z F4 σ H4 env4 v2 v4 _ _ z' Q rfl g4 (rp2.mono (x3.trans x4)) rp4 e' h4
      | false => exact h2 _ H3 F3 g3 x3 (.bl false)
theorem n_chain {op op' : CmpOp} {r r' : R2} {f f' : D → D → Option R} (ho : OpR X (compareOp op) r) (ho' : OpR X (compareOp op') r') (hs : SOp Z.G r f) (hs' : SOp Z.G r' f') (ha : PE X a (tE Z oa)) (hb : PE X b (tE Z ob)) (hc : PE X c (tE Z oc))
    (hm : lastMarks [op, op'] [b, c] = false := by rfl) : PE X (.Compare a [op, op'] [b, c] pos) (tE Z (oChain f f' oa ob oc)) :=
  PE.imp (pe_chain ho ho' ha hb hc hm) fun σ H Q h => chain_to hs hs' h
theorem n_tchain {op op' : CmpOp} {r r' : R2} {f f' : D → D → Option R} (ho : OpR X (compareOp op) r) (ho' : OpR X (compareOp op') r') (hs : SOp Z.G r f) (hs' : SOp Z.G r' f') (ha : PE X a (tE Z oa)) (hb : PE X b (tE Z ob)) (hc : PE X c (tE Z oc))
    (hm : lastMarks [op, op'] [b, c] = false := by rfl) : PT X (.Compare a [op, op'] [b, c] pos) (tT Z (oTru (oChain f f' oa ob oc))) := by
  refine PT.imp (pt_chain ho ho' ha hb hc hm) fun σ H Q h => ?_
  obtain ⟨F, env, g, h⟩ := test_to h
  exact chain_to hs hs' ⟨F, env, g, h⟩
end
end FE

namespace FE
open PySem PySem.Spec PyProof.Rows L2

/-! ### plain data -/
mutual
def D.pyd : D → PyData
  | .non => .none
  | .bl b => .bool b
  | .int i => .int i
  | .str x => .str x
  | .tup ds => .tuple (pydL ds)
  | .lst ds => .list (pydL ds)
  | _ => .none
def pydL : List D → List PyData
  | [] => []
  | d :: ds => D.pyd d :: pydL ds
end
mutual
def D.plain : D → Bool
  | .non => true
  | .bl _ => true
  | .int _ => true
  | .str _ => true
  | .tup ds => plainL ds
  | .lst ds => plainL ds
  | _ => false
def plainL : List D → Bool
  | [] => true
  | d :: ds => D.plain d && plainL ds
end
section
variable {G : Gd} {F H : Hp}
mutual
theorem Rep.dp : ∀ {v : V} {d : D}, Rep G F v d → d.plain = true → Dp G.K F v d.pyd
  | _, _, .non, _ => .non
  | _, _, .bl b, _ => .bl b
  | _, _, .int i, _ => .int i
  | _, _, .str x, _ => .str x
  | _, _, .tup h r, p => .tup h.t (RepL.dp r (by rw [D.plain] at p; exact p))
  | _, _, .wtp h r, p => by
    simp [D.plain] at p
  | _, _, .lst h r, p => .lst h.sq (RepL.dp r (by rw [D.plain] at p; exact p))
  | _, _, .dic h l r, p => by
    simp [D.plain] at p
  | _, _, .obj h h2 g l r, p => by
    simp [D.plain] at p
  | _, _, .dev j x, p => by
    simp [D.plain] at p
theorem RepL.dp : ∀ {vs : List V} {ds : List D}, RepL G F vs ds → plainL ds = true → DpAll G.K F vs (pydL ds)
  | _, _, .nil, _ => .nil
  | _, _, .cons h r, p => by
    rw [plainL, Bool.and_eq_true] at p
    exact .cons (Rep.dp h p.1) (RepL.dp r p.2)
end
end
/-- one scalar beside another -/
def flatD : D → Bool
  | .non => true
  | .bl _ => true
  | .int _ => true
  | .str _ => true
  | _ => false
def D.fv : D → V
  | .non => .non
  | .bl b => .bl b
  | .int i => .int i
  | .str x => .str x
  | _ => .non
theorem Rep.fv {G : Gd} {F : Hp} {v : V} {d : D} (h : Rep G F v d) (p : flatD d = true) : v = d.fv ∧ flatV v = true := by
  cases h <;> first | exact ⟨rfl, rfl⟩ | cases p
theorem RepL.fv {G : Gd} {F : Hp} : ∀ {vs : List V} {ds : List D}, RepL G F vs ds → ds.all flatD = true → vs = ds.map D.fv ∧ vs.all flatV = true
  | _, _, .nil, _ => ⟨rfl, rfl⟩
  | _, _, .cons h r, p => by
    rw [List.all_cons, Bool.and_eq_true] at p
    obtain ⟨e1, f1⟩ := h.fv p.1
    obtain ⟨e2, f2⟩ := RepL.fv r p.2
    exact ⟨by rw [List.map_cons, ← e1, ← e2], by rw [List.all_cons, f1, f2]; rfl⟩

def okD (d : D) : Bool := d.plain && SeqAt.shaped d.pyd
def eqD : D → D → Option Bool
  | .int i, .int j => some (decide (i = j))
  | .str x, .str y => some (decide (x = y))
  | .bl a, .bl b => some (decide (a = b))
  | .non, .non => some true
  | d, e => if okD d && okD e then some (PyData.eqv d.pyd e.pyd) else none
def bR : Option Bool → Option R := fun o => o.map fun b => .sh (.bl b)
def eqF : D → D → Option R := fun d e => bR (eqD d e)
def neF : D → D → Option R := fun d e => bR ((eqD d e).map (! ·))
def rEqU (K : PySem.W.Frag) : R2 := fun x y H Q => rEq x y H Q ∨ rEqD K x y H Q
def rNeU (K : PySem.W.Frag) : R2 := fun x y H Q => rNe x y H Q ∨ rNeD K x y H Q
theorem op_eqU {X : Cx} (hu : X.A.units + 64 < cLine) : OpR X (compareOp .Eq) (rEqU X.K) := op_eq.or (op_eqD hu)
theorem op_neU {X : Cx} (hu : X.A.units + 64 < cLine) : OpR X (compareOp .NotEq) (rNeU X.K) := op_ne.or (op_neD hu)
theorem eqD_cases {d e : D} {b : Bool} (h : eqD d e = some b) : (∃ i j, d = .int i ∧ e = .int j ∧ b = decide (i = j)) ∨ (∃ i j, d = .str i ∧ e = .str j ∧ b = decide (i = j)) ∨ (∃ i j, d = .bl i ∧ e = .bl j ∧ b = decide (i = j)) ∨ (d = .non ∧ e = .non ∧ b = true) ∨
    (okD d = true ∧ okD e = true ∧ b = PyData.eqv d.pyd e.pyd) := by
  unfold eqD at h
  split at h
  · exact .inl ⟨_, _, rfl, rfl, (Option.some.inj h).symm⟩
  · exact .inr (.inl ⟨_, _, rfl, rfl, (Option.some.inj h).symm⟩)
  · exact .inr (.inr (.inl ⟨_, _, rfl, rfl, (Option.some.inj h).symm⟩))
  · exact .inr (.inr (.inr (.inl ⟨rfl, rfl, (Option.some.inj h).symm⟩)))
  · split at h
    · rename_i c
      rw [Bool.and_eq_true] at c
      exact .inr (.inr (.inr (.inr ⟨c.1, c.2, (Option.some.inj h).symm⟩)))
    · cases h
theorem dv_int {i j : Int} : decide (V.int i = V.int j) = decide (i = j) := by
  by_cases h : i = j
  · rw [h]; simp
  · simp [h]
theorem dv_str {i j : PySem.Str} : decide (V.str i = V.str j) = decide (i = j) := by
  by_cases h : i = j
  · rw [h]; simp
  · simp [h]
theorem dv_bl {i j : Bool} : decide (V.bl i = V.bl j) = decide (i = j) := by
  by_cases h : i = j
  · rw [h]; simp
  · simp [h]
theorem okD_dp {G : Gd} {F : Hp} {v : V} {d : D} (h : Rep G F v d) (o : okD d = true) : Dp G.K F v d.pyd ∧ SeqAt.shaped d.pyd = true := by
  unfold okD at o
  rw [Bool.and_eq_true] at o
  exact ⟨h.dp o.1, o.2⟩
theorem s_eq {G : Gd} : SOp G (rEqU G.K) eqF := by
  intro Z F σ H env x y d e z Q hG g rx ry h q
  obtain ⟨b, hb, rfl⟩ : ∃ b, eqD d e = some b ∧ z = .sh (.bl b) := by
    unfold eqF bR at h
    cases q : eqD d e with
    | none => rw [q] at h; cases h
    | some b =>
      rw [q] at h
      exact ⟨b, rfl, (Option.some.inj h).symm⟩
  have fin : Q (.bl b) H := q _ H F g (Ex.refl F) (.bl b)
  rcases eqD_cases hb with ⟨i, j, rfl, rfl, rfl⟩ | ⟨i, j, rfl, rfl, rfl⟩ | ⟨i, j, rfl, rfl, rfl⟩ | ⟨rfl, rfl, rfl⟩ | ⟨o1, o2, rfl⟩
  · cases rx; cases ry
    exact .inl ⟨rfl, by rw [dv_int]; exact fin⟩
  · cases rx; cases ry
    exact .inl ⟨rfl, by rw [dv_str]; exact fin⟩
  · cases rx; cases ry
    exact .inl ⟨rfl, by rw [dv_bl]; exact fin⟩
  · cases rx; cases ry
    exact .inl ⟨rfl, fin⟩
  · subst hG
    obtain ⟨p1, s1⟩ := okD_dp (rx.mono g.fh) o1
    obtain ⟨p2, s2⟩ := okD_dp (ry.mono g.fh) o2
    exact .inr ⟨_, _, p1, p2, s1, s2, fin⟩
theorem s_ne {G : Gd} : SOp G (rNeU G.K) neF := by
  intro Z F σ H env x y d e z Q hG g rx ry h q
  obtain ⟨b, hb, rfl⟩ : ∃ b, eqD d e = some b ∧ z = .sh (.bl (!b)) := by
    unfold neF bR at h
    cases q : eqD d e with
    | none => rw [q] at h; cases h
    | some b =>
      rw [q] at h
      exact ⟨b, rfl, (Option.some.inj h).symm⟩
  have fin : Q (.bl (!b)) H := q _ H F g (Ex.refl F) (.bl (!b))
  rcases eqD_cases hb with ⟨i, j, rfl, rfl, rfl⟩ | ⟨i, j, rfl, rfl, rfl⟩ | ⟨i, j, rfl, rfl, rfl⟩ | ⟨rfl, rfl, rfl⟩ | ⟨o1, o2, rfl⟩
  · cases rx; cases ry
    exact .inl ⟨rfl, by rw [dv_int]; exact fin⟩
  · cases rx; cases ry
    exact .inl ⟨rfl, by rw [dv_str]; exact fin⟩
  · cases rx; cases ry
    exact .inl ⟨rfl, by rw [dv_bl]; exact fin⟩
  · cases rx; cases ry
    exact .inl ⟨rfl, fin⟩
  · subst hG
    obtain ⟨p1, s1⟩ := okD_dp (rx.mono g.fh) o1
    obtain ⟨p2, s2⟩ := okD_dp (ry.mono g.fh) o2
    exact .inr ⟨_, _, p1, p2, s1, s2, fin⟩

/-! ### + - * // .. -/
def iI (f : Int → Int → Int) : D → D → Option R
  | .int i, .int j => some (.sh (.int (f i j)))
  | _, _ => none
def iB (f : Int → Int → Bool) : D → D → Option R
  | .int i, .int j => some (.sh (.bl (f i j)))
  | _, _ => none
theorem s_iI {G : Gd} {f : Int → Int → Int} : SOp G (rI0 fun i j => .int (f i j)) (iI f) := by
  intro Z F σ H env x y d e z Q hG g rx ry h q
  unfold iI at h
  split at h
  · cases rx; cases ry; cases h
    exact ⟨_, _, rfl, rfl, q _ H F g (Ex.refl F) (.int _)⟩
  · cases h
theorem s_iB {G : Gd} {f : Int → Int → Bool} : SOp G (rI0 fun i j => .bl (f i j)) (iB f) := by
  intro Z F σ H env x y d e z Q hG g rx ry h q
  unfold iB at h
  split at h
  · cases rx; cases ry; cases h
    exact ⟨_, _, rfl, rfl, q _ H F g (Ex.refl F) (.bl _)⟩
  · cases h
def addF : D → D → Option R
  | .int i, .int j => some (.sh (.int (i + j)))
  | .str x, .str y => if x.length + y.length ≤ 1000000 then some (.sh (.str (x ++ y))) else none
  | .lst xs, .lst ys => if xs.length + ys.length ≤ 1000000 then some (.ow (xs ++ ys)) else none
  | .tup xs, .tup ys => if xs.length + ys.length ≤ 1000000 then some (.sh (.tup (xs ++ ys))) else none
  | _, _ => none
def rCatL (K : PySem.W.Frag) : R2 := fun x y H Q => ∃ l b xs zs, x = .ref l ∧ y = .ref b ∧ Lr K H l xs ∧ Lr K H b zs ∧ xs.length + zs.length ≤ sizeLine ∧ ∀ p, H p = none → Q (.ref p) (upd H p (.lst (xs ++ zs)))
theorem Inv.lr {X : Cx} {pins : List (Addr × Obj)} {σ : L2.St} {H : Hp} {s : Shared} {l : Addr} {xs : List V} (I : Inv X pins σ H s) (hH : Lr X.K H l xs) : xs.length ≤ sizeLine ∧ ∃ (its : List Value) (n : Nat), Vals xs its ∧ xs.length = its.length ∧ s.heap.get? l = some { cls := .type "list", data := .seq its.toArray n } := by
  rcases hH with hH | ⟨its, n, h1, h2, h3⟩
  · obtain ⟨z, its, n, r, e⟩ := hH.ok I.hok
    exact ⟨z, its, n, r, r.length, e⟩
  · exact ⟨by rw [h3.length]; exact h2, its, n, h3, h3.length, I.kIn _ _ h1⟩
theorem op_catL {X : Cx} : OpR X (binaryOp .Add) (rCatL X.K) := by
  intro pins s σ H x y v u Q I rx ry h
  obtain ⟨l, b, xs, zs, rfl, rfl, hH, hB, hz, q⟩ := h
  cases rx
  cases ry
  obtain ⟨z, its, n, r, hl, e⟩ := Inv.lr I hH
  obtain ⟨z2, its2, n2, r2, hl2, e2⟩ := Inv.lr I hB
  refine PySem.P.add_list e e2 ?_ (by rw [List.size_toArray, List.size_toArray]; omega)
  rw [show its.toArray ++ its2.toArray = (its ++ its2).toArray by simp]
  exact ⟨.ref _, _, I.lnew (t' := s.toks) (r.append r2) (by rw [List.length_append]; omega), rfl, q _ I.fresh⟩
/-- t + u -/
def rCatN (K : PySem.W.Frag) : R2 := fun x y H Q => ∃ a b xs ys, x = .ref a ∧ y = .ref b ∧ SqT K H a xs ∧ SqT K H b ys ∧ xs.length + ys.length ≤ sizeLine ∧
  (xs = [] → Q (.ref b) H) ∧ (xs ≠ [] → ys = [] → Q (.ref a) H) ∧ (xs ≠ [] → ys ≠ [] → ∀ (p : Addr) (o : Obj), H p = none → o.dict = none → Q (.ref p) (upd H p (.frz o (.tup (xs ++ ys)))))
theorem op_catN {X : Cx} : OpR X (binaryOp .Add) (rCatN X.K) := by
  intro pins s σ H x y v u Q I rx ry h
  obtain ⟨a, b, xs, ys, rfl, rfl, ha, hb, hz, q0, q1, q2⟩ := h
  cases rx
  cases ry
  obtain ⟨its, r1, p1, _⟩ := I.tuple ha
  obtain ⟨its2, r2, p2, _⟩ := I.tuple hb
  by_cases hx : xs = []
  · subst hx
    cases r1
    exact cat_tup0 p1 p2 ⟨.ref b, H, I, rfl, q0 rfl⟩
  · refine HT.cat_tup p1 p2 (fun z => hx (r1.nil_iff.mp z)) (fun z => ⟨.ref a, H, I, rfl, q1 hx (r2.nil_iff.mp z)⟩) (fun z => ?_) (by rw [← r1.length, ← r2.length]; exact hz)
    refine ⟨.ref s.heap.objs.size, _, I.laid (t' := s.toks) (o := .frz { cls := .type "tuple", data := .seq (its ++ its2).toArray } (.tup (xs ++ ys))) (fun b ob q => Heap.get?_push_of_some _ q) (Nat.le_refl _) ?_, rfl, q2 hx (fun w => z (r2.nil_iff.mpr w)) _ _ (I.hok.fresh (Nat.le_refl _)) rfl⟩
    exact ⟨Heap.get?_push_size _ rfl, by rw [List.length_append]; exact hz, _, r1.append r2, IsTup.new _ _⟩
def rAddU (K : PySem.W.Frag) : R2 := fun x y H Q => rI0 (fun i j => .int (i + j)) x y H Q ∨ (fun x y H Q => ∃ i j, x = .str i ∧ y = .str j ∧ i.length + j.length ≤ sizeLine ∧ Q (.str (i ++ j)) H : R2) x y H Q ∨ rCatL K x y H Q ∨ rCatN K x y H Q
theorem op_addU {X : Cx} : OpR X (binaryOp .Add) (rAddU X.K) := op_add.or (op_add_str.or (op_catL.or op_catN))
theorem s_add {G : Gd} : SOp G (rAddU G.K) addF := by
  intro Z F σ H env x y d e z Q hG g rx ry h q
  unfold addF at h
  split at h
  · cases rx; cases ry; cases h
    exact .inl ⟨_, _, rfl, rfl, q _ H F g (Ex.refl F) (.int _)⟩
  · split at h
    · rename_i hl
      cases rx; cases ry; cases h
      exact .inr (.inl ⟨_, _, rfl, rfl, Nat.le_trans hl big_line, q _ H F g (Ex.refl F) (.str _)⟩)
    · cases h
  · split at h
    · rename_i hl
      cases h
      cases rx with
      | lst h1 r1 =>
        cases ry with
        | lst h2 r2 =>
          subst hG
          refine .inr (.inr (.inl ⟨_, _, _, _, rfl, rfl, g.fh.lr h1, g.fh.lr h2, Nat.le_trans (by rw [r1.length, r2.length]; exact hl) big_line, fun p hp => ?_⟩))
          exact q _ _ F (g.lay hp) (Ex.refl F) (g.mine hp (r1.append r2))
    · cases h
  · split at h
    · rename_i hl
      cases h
      cases rx with
      | tup h1 r1 =>
        cases ry with
        | tup h2 r2 =>
          subst hG
          refine .inr (.inr (.inr ⟨_, _, _, _, rfl, rfl, g.fh.t h1.t, g.fh.t h2.t, Nat.le_trans (by rw [r1.length, r2.length]; exact hl) big_line, fun hx => ?_, fun hx hy => ?_, fun hx hy p o hp ho => ?_⟩))
          · refine q _ H F g (Ex.refl F) ?_
            subst hx
            cases r1
            exact .tup h2 r2
          · refine q _ H F g (Ex.refl F) ?_
            subst hy
            cases r2
            rw [List.append_nil]
            exact .tup h1 r1
          · exact q _ _ _ (g.layF hp) (Ex.new (g.fresh hp)) (.tup (.new ho) ((r1.append r2).mono (Ex.new (g.fresh hp))))
    · cases h
  · cases h
def mulF : D → D → Option R
  | .int i, .int j => if i.natAbs.log2 + j.natAbs.log2 < 1000000 then some (.sh (.int (i * j))) else none
  | .str x, .int n => if 0 ≤ n ∧ n ≤ 1000 ∧ x.length ≤ 1000 then some (.sh (.str (Txt.mul x n))) else none
  | .lst xs, .int n => if 0 ≤ n ∧ n ≤ 1000 ∧ xs.length ≤ 1000 then some (.ow (List.replicate n.toNat xs).flatten) else none
  | _, _ => none
def rMulS : R2 := fun x y H Q => ∃ z n, x = .str z ∧ y = .int n ∧ 0 ≤ n ∧ n ≤ 1000 ∧ z.length ≤ 1000 ∧ Q (.str (Txt.mul z n)) H
theorem mulOk_small {z : PySem.Str} {n : Int} (h0 : 0 ≤ n) (h1 : n ≤ 1000) (hz : z.length ≤ 1000) : MulOk z n := by
  refine ⟨?_, fun a b => ?_, fun a b => ?_⟩
  · rw [decide_eq_false (by omega), decide_eq_false (by omega)]; rfl
  · intro hc
    have h2 : (9000000000000000 : Int) ≤ (2 ^ 63 - 1) / n := by
      rw [Int.le_ediv_iff_mul_le (by omega)]
      have : (9000000000000000 : Int) * n ≤ 9000000000000000 * 1000 := Int.mul_le_mul_of_nonneg_left h1 (by omega)
      omega
    omega
  · have h2 : z.length * n.toNat ≤ 1000 * 1000 := Nat.mul_le_mul hz (by omega)
    unfold Builtin.Str.tooLong
    have h3 : (1000000 : Nat) ≤ sizeLine := big_line
    simp only [decide_eq_false_iff_not]
    omega
theorem op_mulS {X : Cx} : OpR X (binaryOp .Mult) rMulS := by
  intro pins s σ H x y v u Q I rx ry h
  obtain ⟨z, n, rfl, rfl, h0, h1, hz, q⟩ := h
  obtain ⟨t, rfl⟩ := rx
  obtain ⟨t', rfl⟩ := ry
  exact SB.mul (mulOk_small h0 h1 hz) fun t' k => ⟨.str _, H, I.tok k, ⟨_, rfl⟩, q⟩
end FE

namespace FE
open PySem PySem.Spec PyProof.Rows L2

/-! ### defs whose promise knows that no display of a container is under way -/
section
variable (P : Program) (w : World) (K : PySem.W.Frag) (mg : PySem.Str → Option Value) (base : Heap)
structure FnG (k : Nat) (f : Addr) (fd : FuncData) (ps : List PySem.Str) (sp : Sp) : Prop where
  len : ∀ vs H Q E, sp vs H Q E → vs.length = ps.length
  run : ∀ (A : Around) (outer : List PySem.Env) (s : Shared) (H : Hp) (args : Args) (us : List Value) (vs : List V) (Q : VK) (E : XK),
    Room k A → A.guards = some [] → Env0 P w K mg base A outer s H → BindsTo s fd args (ps.zip us) → Vals vs us → sp vs H Q E →
      codeAny (model P w) A (.call (.ref f) args) (CR (L2.CX P w) outer P w H s Q E) s
end
section
variable {P : Program} {w : World} {K : PySem.W.Frag} {mg : PySem.Str → Option Value} {base : Heap} {k : Nat} {f : Addr} {fd : FuncData} {N ps : List PySem.Str} {sp : Sp}
theorem FnG.mono {j : Nat} (F : FnG P w K mg base j f fd ps sp) (h : j ≤ k) : FnG P w K mg base k f fd ps sp :=
  ⟨F.len, fun A outer s H args us vs Q E r => F.run A outer s H args us vs Q E (r.mono h)⟩
/-- a def of the text keeps its promise, by its body -/
theorem fnG_of {x qual : PySem.Str} {params : Arguments} {body : List Stmt} {scope : Scope} {dvs : List V} {kws : List (PySem.Str × V)} (D : FunD K x qual params body scope dvs kws f fd) (S : FnScope N ps scope)
    (len : ∀ vs H Q E, sp vs H Q E → vs.length = ps.length)
    (hbody : ∀ (cdv : Value) (A : Around) (outer : List PySem.Env) (s : Shared) (H : Hp) (vs : List V) (Q : VK) (E : XK), Room k (A.deeper (envOfC qual scope s.heap.objs.size f cdv)) → A.guards = some [] → sp vs H Q E →
      ∃ t, PSs (cxOf (L2.CX P w) P w K mg base N qual scope f cdv A outer s H E) body t ∧ t { nx := fun _ H' => Q .non H', rt := Q } (start N vs) H) : FnG P w K mg base (k + 1) f fd ps sp := by
  obtain ⟨oc, od, dV, kV, doc, pm, an, cdv, ct, osl, rfl, lk, cR, _, _⟩ := D.ex
  constructor
  · exact len
  intro A outer s H args us vs Q E room gd e0 bnd rv hsp
  have here : ∀ b o, base.get? b = some o → s.heap.get? b = some o := fun b o z => (e0.bs b o z).1
  have KX := e0.mod.kin.keeps here
  have parsOk : ∀ y ∈ ps.zip us, scope.names.lookup y.1 = some .local ∨
      (scope.names.lookup y.1 = some .cell ∧ ((cellsFrom (s.heap.objs.size + 1) scope.names []).lookup y.1).isSome = true) := by
    rintro ⟨n, v⟩ hy
    exact (S.par n (List.of_mem_zip hy).1).imp id fun q => ⟨q, PySem.W.cellsFrom_some _ _ _ (.inl q)⟩
  refine codeAny_call_function room.depth (KX _ _ lk) rfl S.co S.gen rfl (PySem.W.codeRec_of KX cR) (bnd _ _ _ _ ?_)
  refine wpAny_newFunctionEnv_cells S.kind parsOk ?_
  rintro env rfl s1 x
  refine ⟨(e0.mod.nolimit.keeps here).keeps x.toInCall.keep, codeAny_func ?_⟩
  obtain ⟨t, ht, hq⟩ := hbody cdv A outer s H vs Q E (room.deeper _) gd hsp
  have I := inv_start (CX := L2.CX P w) (E := E) S room.hd e0 (len _ _ _ _ hsp) rv x
  refine wpAny_mono (ht.run [] s1 (start N vs) H _ I hq) (fun fl s' hs => ?_) (fun e s' hs => hs)
  cases fl with
  | next =>
    obtain ⟨σ', H', J, q⟩ := hs
    exact ⟨V.non, H', J.os, J.bare, J.base, J.hok, rfl, q⟩
  | ret u =>
    obtain ⟨v, σ', H', J, rv', q⟩ := hs
    exact ⟨v, H', J.os, J.bare, J.base, J.hok, rv', q⟩
  | brk => exact hs.elim fun _ z => z.elim fun _ z => z.2.elim
  | cont => exact hs.elim fun _ z => z.elim fun _ z => z.2.elim
end
section
variable {X : Cx} {k : Nat} {f : Addr} {fd : FuncData} {ps ks : List PySem.Str} {sp : Sp} {W : WX} {g : List Value → List Value → List Value} {gV : List V → List V → List V}
/-- the callee runs, its arguments in place -/
theorem runG {pins : List (Addr × Obj)} {σ : L2.St} {H : Hp} {s : Shared} {Q : VK} {us ws : List Value} {vs zs : List V} (F : FnG X.prog X.w X.K X.mg X.base k f fd ps sp) (hr : Room k X.A) (hg : X.A.guards = some []) (hb : KBinds X.K fd ps ks g gV) (tk : Takes X W)
    (I : Inv X pins σ H s) (r : Vals vs us) (rz : Vals zs ws) (h : sp (gV vs zs) H Q (fun cls d H' => W cls d σ H')) : wpAny (model X.prog X.w) X.A (call (.ref f) us (ks.zip ws)) (EP X pins σ Q) X.xe s := by
  have r2 := hb.rel r rz
  have bt := hb.to s us ws I.kIn (by rw [← r2.length]; exact F.len _ _ _ _ h)
  refine wpAny_call (codeAny_mono (F.run X.A X.stack s H ⟨us, ks.zip ws⟩ (g us ws) (gV vs zs) Q (fun cls d H' => W cls d σ H') hr hg I.env0 bt r2 h) ?_)
  intro r s' hq
  cases r with
  | error e => exact tk e s' (XE.of_call I (fun _ _ _ z => z) hq)
  | ok fl =>
    cases fl with
    | ret u => exact I.after hq
    | next => exact False.elim hq
    | brk => exact False.elim hq
    | cont => exact False.elim hq
/-- what a call of a def asks: positional values, the keywords' values -/
def tCallG (sp : Sp) (W : WX) (gV : List V → List V → List V) (t tk : TA) : TE := fun σ H Q => t σ H fun vs H1 => tk σ H1 fun zs H2 => sp (gV vs zs) H2 Q (fun cls d H' => W cls d σ H')
theorem pe_callG {x : PySem.Str} {p pos : Pos} {e : Expr} {es : List Expr} {kws : List Keyword} {t tk : TA} (F : FnG X.prog X.w X.K X.mg X.base k f fd ps sp) (hr : Room k X.A) (hg : X.A.guards = some []) (hgl : Gl X x) (hm : X.mg x = some (.ref f)) (hk : PySem.W.keepIn X.K (.ref f) = true)
    (hb : KBinds X.K fd ps ks g gV) (tks : Takes X W) (ha : PA X (e :: es) t) (hkw : PK X kws tk) (hall : (backToKw pos (keywordEach kws X.env)).all (·.1.isSome) = true := by rfl) (hks : (backToKw pos (keywordEach kws X.env)).filterMap (·.1) = ks := by rfl)
    (hdb : (x == ("__debug__" : PySem.Str)) = false := by decide) (he : starEach (e :: es) X.env = (false, eval e X.env) :: starEach es X.env := by rfl)
    (hpl : ((backTo pos (starEach (e :: es) X.env)).any (·.1) || (backToKw pos (keywordEach kws X.env)).any (·.1.isNone)) = false := by rfl) :
    PE X (.Call (.Name x p) (e :: es) kws pos) (tCallG sp W gV t tk) := by
  constructor
  intro pins s σ H Q I h
  refine wpAny_Call_Name_kw (ld_glob I hgl hm ?_ hdb)
  refine PySem.W.callWith_KW (h₀ := X.base) I.ok.mod.kin hk hall (thn (ha.run pos pins s σ H _ I h) ?_) hpl he
  rintro us s1 ⟨vs, H1, I1, r, q⟩
  refine thn (hkw.run pos pins s1 σ H1 _ I1 q) ?_
  rintro ws s2 ⟨zs, H2, I2, rz, q2⟩
  refine ⟨I2.kIn, ?_⟩
  rw [hks]
  exact runG F hr hg hb tks I2 r rz q2
/-- no keywords, no defaults -/
theorem kb_all {K : PySem.W.Frag} {fd : FuncData} {ps : List PySem.Str} (b : Binds K fd ps []) : KBinds K fd ps [] (fun us _ => us) (fun vs _ => vs) :=
  ⟨fun s us ws X hl => by
    have := b s us X (by rw [List.append_nil]; exact hl)
    rw [List.append_nil] at this
    exact this, fun r _ => r⟩
end
/-! ### the law's own call -/
theorem law_callG {P : Program} {w : World} {K : PySem.W.Frag} {mg mb : PySem.Str → Option Value} {k : Nat} {fa a : Addr} {fd : FuncData} {x : PySem.Str} {sp : Sp} {s₁ : Shared} {vs : List Value} {ns : List Int}
    (KX : K.In s₁.heap) (hns : s₁.heap.Ns mainGlobals mg) (hb : s₁.heap.Ns builtinsNs mb) (hbb : ∀ x : PySem.Str, x ≠ "__name__" → mb x = bootBuiltins x) (hlim : s₁.heap.NoLimit) (hg : s₁.gens = #[])
    (ha : s₁.heap.get? a = some { cls := .type "list", data := .seq vs.toArray }) (hi : IntsAre vs ns) (hl : ns.length ≤ sizeLine) (hr : Room k callerA)
    (F : ∀ base : Heap, K.In base → base.Ns mainGlobals mg → FnG P w K mg base k fa fd [x] sp) (hbind : ∀ (s : Shared) (u : Value), BindsTo s fd ⟨[u], []⟩ [(x, u)])
    (hsp : ∀ H : Hp, (∀ b, H b = none ∨ b = a) → Lr K H a (ns.map V.int) → sp [.ref a] H (fun v _ => v = .bl true) fun _ _ _ => False) :
    codeAny (model P w) callerA (.call (.ref fa) ⟨[.ref a], []⟩) (fun r s' => r = .ok (.ret (.bool true)) ∧ OldK s₁.heap s'.heap ∧ s'.os = s₁.os ∧ AllBare s'.gens) s₁ := by
  obtain ⟨O, hO⟩ : ∃ O : Obj, O = { cls := .type "list", data := .seq vs.toArray } := ⟨_, rfl⟩
  rw [← hO] at ha
  obtain ⟨H, Ha, Hn, nk, hsq⟩ : ∃ H : Hp, (H a = none ∨ H a = some (.frz O (.lst (ns.map V.int)))) ∧ (∀ b, b ≠ a → H b = none) ∧ (H a ≠ none → K.lookup a = none) ∧ Lr K H a (ns.map V.int) := by
    cases hk : K.lookup a with
    | none => exact ⟨upd (fun _ => none) a (.frz O (.lst (ns.map V.int))), .inr upd_same, fun b z => by rw [upd_ne z], fun _ => rfl, .inl (.inr ⟨O, upd_same⟩)⟩
    | some o =>
      have z := KX a o hk
      rw [ha] at z
      cases z
      exact ⟨fun _ => none, .inl rfl, fun b _ => rfl, fun z => absurd rfl z, .inr ⟨vs, _, by rw [hk, hO], by rw [hi.length]; exact hl, vals_ints hi⟩⟩
  have ok : HOk P w H s₁.heap := by
    intro b u z
    by_cases q : b = a
    · rcases Ha with y | y
      · rw [q, y] at z
        cases z
      · rw [q, y] at z
        cases z
        rw [q]
        exact ⟨ha, by rw [List.length_map]; exact hl, vs, _, vals_ints hi, by rw [ha, hO]⟩
    · rw [Hn b q] at z
      cases z
  have stay : ∀ {b : Addr} {o : Obj}, s₁.heap.get? b = some o → b ≠ a → (hidT s₁.heap H).get? b = some o := fun z q => hidT_get z (Hn _ q)
  have hon : ∀ b, H b = none ∨ b = a := fun b => (Classical.em (b = a)).elim .inr fun z => .inl (Hn b z)
  have noD : ∀ {b : Addr} {o : Obj} {es : Array DictEntry} {ep : Nat}, s₁.heap.get? b = some o → o.data = .dict es ep → b ≠ a := by
    rintro b o es ep z d rfl
    rw [ha] at z
    cases z
    rw [hO] at d
    cases d
  have nsS : ∀ {b : Addr} {m : PySem.Str → Option Value}, s₁.heap.Ns b m → (hidT s₁.heap H).Ns b m := by
    rintro b m ⟨o, es, ep, z, d, r⟩
    exact ⟨o, es, ep, stay z (noD z d), d, r⟩
  have KB : K.In (hidT s₁.heap H) := fun b o z => hidT_get (KX b o z) ((hon b).elim id fun y => by
    cases q : H b with
    | none => rfl
    | some u =>
      subst y
      rw [nk (by rw [q]; simp)] at z
      cases z)
  have M : Mod K mg (hidT s₁.heap H) := by
    obtain ⟨mc, l1, l2⟩ := hlim
    exact ⟨KB, nsS hns, ⟨mb, nsS hb, hbb⟩, ⟨mc, nsS l1, l2⟩⟩
  have e0 : Env0 P w K mg (hidT s₁.heap H) callerA [] s₁ H := by
    refine ⟨rfl, M, fun b o z => of_hidT z, Nat.le_of_eq (hidT_size _ _), trivial, fun b z => ?_, ok, .of_eq hg⟩
    cases z
  refine codeAny_mono ((F _ KB (nsS hns)).run callerA [] s₁ H ⟨[.ref a], []⟩ [.ref a] [.ref a] _ _ hr rfl e0 (hbind s₁ (.ref a)) (.cons rfl .nil) (hsp H hon hsq)) ?_
  intro r s' h
  cases r with
  | error e =>
    obtain ⟨_, _, _, _, _, _, _, _, _, _, _, _, z⟩ := h
    exact z.elim
  | ok fl =>
    cases fl with
    | next => exact False.elim h
    | brk => exact False.elim h
    | cont => exact False.elim h
    | ret u =>
      obtain ⟨v, H', os, bare, un, ok', rv, q⟩ := h
      cases q
      cases rv
      refine ⟨rfl, OldK.of_keep ?_, os, bare⟩
      intro b o z
      by_cases q : b = a
      · subst q
        rcases Ha with y | y
        · exact un.keep b o z y (by intro y; cases y) (by intro y; cases y)
        · have y := un.frzs b O _ y
          obtain ⟨y1, _⟩ := ok' b _ y
          rw [ha] at z
          cases z
          exact y1
      · exact un.keep b o z (Hn b q) (by intro y; cases y) (by intro y; cases y)
end FE

namespace FE
open PySem PySem.Spec PyProof.Rows L2

/-! ### more operators -/
def rRepL (K : PySem.W.Frag) : R2 := fun x y H Q => ∃ l k xs, x = .ref l ∧ y = .int k ∧ Lr K H l xs ∧ -(2 ^ 63) ≤ k ∧ k < 2 ^ 63 ∧ xs.length * k.toNat ≤ sizeLine ∧ ∀ p, H p = none → Q (.ref p) (upd H p (.lst (List.replicate k.toNat xs).flatten))
theorem op_repL {X : Cx} : OpR X (binaryOp .Mult) (rRepL X.K) := by
  rintro pins s σ H x y v u Q I rx ry ⟨l, k, xs, rfl, rfl, hl, lo, up, big, q⟩
  obtain rfl : v = .ref l := rx
  obtain ⟨tk, rfl⟩ := ry
  obtain ⟨_, its, n, r, len, at_⟩ := Inv.lr I hl
  have small : its.toArray.size * k.toNat ≤ sizeLine := by
    rw [List.size_toArray]
    rw [len] at big
    exact big
  have cap : ¬ its.toArray.size * k.toNat > (2 ^ 63 - 1) / 8 := fun z => absurd (Nat.lt_of_lt_of_le z small) (by decide)
  have fit : ¬ (!Builtin.List.listFitsIndex k) = true := fun z => by
    rw [fitsIndex_both lo up] at z
    cases z
  have long : ¬ Builtin.List.listTooLong (its.toArray.size * k.toNat) = true := fun z => by
    rw [notLongL small] at z
    cases z
  have all : ∀ m : Nat, (List.replicate m its.toArray).foldl (fun x1 x2 => x1 ++ x2) #[] = (List.replicate m its).flatten.toArray := fun m => by
    have z := foldl_rep its m []
    rwa [List.nil_append] at z
  have new : List.foldl (fun x1 x2 => x1 ++ x2) #[] (List.replicate (if its.toArray.isEmpty = true then 0 else k.toNat) its.toArray) = (List.replicate k.toNat its).flatten.toArray := by
    cases its with
    | nil => rw [all]; simp
    | cons a r' => rw [if_neg (by simp), all]
  have step2 : (List.foldl (fun x1 x2 => x1 ++ x2) #[] (List.replicate (if its.toArray.isEmpty = true then 0 else k.toNat) its.toArray)) = (List.replicate k.toNat its).flatten.toArray := new
  have isL : s.TypeIs (.ref l) "list" := ⟨_, at_, rfl⟩
  apply wpAny_binaryOp_repeat_ref (T := "list") (U := "int") (by decide) isL (fun s' => typeIs_int s' k tk) noFill_list_mul F.fills_int_mul F.slot_int_rmul repeat_list F.slot_int_index.lookup
  apply call_meets F.slot_int_rmul (typeIs_int s k tk) F.entry_int_rmul (F.args_int_rmul_2 _ _) (int___rmul___int_list k tk l its.toArray n)
  refine ⟨at_, rfl, isL, ?_⟩
  apply call_meets F.slot_list_mul isL F.entry_list_mul (F.args_list_mul_2 _ _) (AutoListH.list___mul___list_int_3 l its.toArray n k tk fit cap long)
  refine ⟨at_, ?_⟩
  rw [step2]
  refine ⟨.ref _, _, I.lnew (t' := s.toks) (r.rep k.toNat) ?_, rfl, q _ I.fresh⟩
  rw [PyProof.Rows.lm_len_rep_flat, Nat.mul_comm]
  exact big
def rMulU (K : PySem.W.Frag) : R2 := fun x y H Q => rI CMulW (fun i j => .int (i * j)) x y H Q ∨ rMulS x y H Q ∨ rRepL K x y H Q
theorem op_mulU {X : Cx} : OpR X (binaryOp .Mult) (rMulU X.K) := op_mulW.or (op_mulS.or op_repL)
theorem RepL.flat {G : Gd} {F : Hp} {vs : List V} {ds : List D} (r : RepL G F vs ds) : ∀ n : Nat, RepL G F (List.replicate n vs).flatten (List.replicate n ds).flatten
  | 0 => .nil
  | n + 1 => by
    rw [List.replicate_succ, List.replicate_succ, List.flatten_cons, List.flatten_cons]
    exact r.append (RepL.flat r n)
/-- (a list is repeated where it is a new one or one that nobody locked) -/
def mulF' : D → D → Option R
  | .int i, .int j => if i.natAbs.log2 + j.natAbs.log2 < 1000000 then some (.sh (.int (i * j))) else none
  | .str x, .int n => if 0 ≤ n ∧ n ≤ 1000 ∧ x.length ≤ 1000 then some (.sh (.str (Txt.mul x n))) else none
  | .lst ds, .int n => if 0 ≤ n ∧ n ≤ 1000 ∧ ds.length ≤ 1000 then some (.ow (List.replicate n.toNat ds).flatten) else none
  | _, _ => none
theorem s_mul {G : Gd} : SOp G (rMulU G.K) mulF' := by
  intro Z F σ H env x y d e z Q hG g rx ry h q
  unfold mulF' at h
  split at h
  · split at h
    · rename_i c
      cases rx; cases ry; cases h
      exact .inl ⟨_, _, rfl, rfl, c, q _ H F g (Ex.refl F) (.int _)⟩
    · cases h
  · split at h
    · rename_i c
      cases rx; cases ry; cases h
      exact .inr (.inl ⟨_, _, rfl, rfl, c.1, c.2.1, c.2.2, q _ H F g (Ex.refl F) (.str _)⟩)
    · cases h
  · split at h
    · rename_i ds n c
      cases h
      cases ry
      cases rx with
      | lst h1 r1 =>
        subst hG
        have hz : ds.length * n.toNat ≤ 1000000 := Nat.le_trans (Nat.mul_le_mul c.2.2 (show n.toNat ≤ 1000 by omega)) (by decide)
        refine .inr (.inr ⟨_, _, _, rfl, rfl, g.fh.lr h1, by omega, by omega, Nat.le_trans (by rw [r1.length]; exact hz) big_line, fun p hp => ?_⟩)
        exact q _ _ F (g.lay hp) (Ex.refl F) (g.mine hp (r1.flat _))
    · cases h
  · cases h
def fdivF : D → D → Option R
  | .int i, .int j => if 0 < j ∧ j.natAbs.log2 < 9000 then some (.sh (.int (i / j))) else none
  | _, _ => none
theorem s_fdiv {G : Gd} : SOp G (rI CDivW fun i j => .int (i / j)) fdivF := by
  intro Z F σ H env x y d e z Q hG g rx ry h q
  unfold fdivF at h
  split at h
  · split at h
    · rename_i c
      cases rx; cases ry; cases h
      exact ⟨_, _, rfl, rfl, c, q _ H F g (Ex.refl F) (.int _)⟩
    · cases h
  · cases h
def modF : D → D → Option R
  | .int i, .int j => if 0 < j then some (.sh (.int (i % j))) else none
  | _, _ => none
theorem s_mod {G : Gd} : SOp G (rI (fun _ j => 0 < j) fun i j => .int (i % j)) modF := by
  intro Z F σ H env x y d e z Q hG g rx ry h q
  unfold modF at h
  split at h
  · split at h
    · rename_i c
      cases rx; cases ry; cases h
      exact ⟨_, _, rfl, rfl, c, q _ H F g (Ex.refl F) (.int _)⟩
    · cases h
  · cases h
def powF : D → D → Option R
  | .int i, .int j => if 0 ≤ j ∧ j ≤ 1000000 ∧ i.natAbs < 2 ^ 64 then some (.sh (.int (i ^ j.toNat))) else none
  | _, _ => none
theorem s_pow {G : Gd} : SOp G (rI CPow fun i j => .int (i ^ j.toNat)) powF := by
  intro Z F σ H env x y d e z Q hG g rx ry h q
  unfold powF at h
  split at h
  · split at h
    · rename_i c
      cases rx; cases ry; cases h
      exact ⟨_, _, rfl, rfl, c, q _ H F g (Ex.refl F) (.int _)⟩
    · cases h
  · cases h
def shlF : D → D → Option R
  | .int i, .int j => if 0 ≤ j ∧ j ≤ 1000000 ∧ i.natAbs < 2 ^ 64 then some (.sh (.int (i * 2 ^ j.toNat))) else none
  | _, _ => none
theorem s_shl {G : Gd} : SOp G (rI CPow fun i j => .int (i * 2 ^ j.toNat)) shlF := by
  intro Z F σ H env x y d e z Q hG g rx ry h q
  unfold shlF at h
  split at h
  · split at h
    · rename_i c
      cases rx; cases ry; cases h
      exact ⟨_, _, rfl, rfl, c, q _ H F g (Ex.refl F) (.int _)⟩
    · cases h
  · cases h
def shrF : D → D → Option R
  | .int i, .int j => if 0 ≤ j then some (.sh (.int (i / 2 ^ j.toNat))) else none
  | _, _ => none
theorem s_shr {G : Gd} : SOp G (rI (fun _ j => 0 ≤ j) fun i j => .int (i / 2 ^ j.toNat)) shrF := by
  intro Z F σ H env x y d e z Q hG g rx ry h q
  unfold shrF at h
  split at h
  · split at h
    · rename_i c
      cases rx; cases ry; cases h
      exact ⟨_, _, rfl, rfl, c, q _ H F g (Ex.refl F) (.int _)⟩
    · cases h
  · cases h
def negF : D → Option R
  | .int i => some (.sh (.int (-i)))
  | _ => none
theorem s_neg {G : Gd} : SUn G (rU fun i => .int (-i)) negF := by
  intro Z F σ H env x d z Q hG g rx h q
  unfold negF at h
  split at h
  · cases rx; cases h
    exact ⟨_, rfl, q _ H F g (Ex.refl F) (.int _)⟩
  · cases h
/-! ### order -/
def strLt (x y : PySem.Str) : Bool := decide (x.cps.toList < y.cps.toList)
def rOrd (fi : Int → Int → Bool) (fs : PySem.Str → PySem.Str → Bool) : R2 := fun x y H Q => rI0 (fun i j => .bl (fi i j)) x y H Q ∨ (fun x y H Q => ∃ i j, x = .str i ∧ y = .str j ∧ Q (.bl (fs i j)) H : R2) x y H Q
def ordF (fi : Int → Int → Bool) (fs : PySem.Str → PySem.Str → Bool) : D → D → Option R
  | .int i, .int j => some (.sh (.bl (fi i j)))
  | .str i, .str j => some (.sh (.bl (fs i j)))
  | _, _ => none
theorem s_ord {G : Gd} {fi : Int → Int → Bool} {fs : PySem.Str → PySem.Str → Bool} : SOp G (rOrd fi fs) (ordF fi fs) := by
  intro Z F σ H env x y d e z Q hG g rx ry h q
  unfold ordF at h
  split at h
  · cases rx; cases ry; cases h
    exact .inl ⟨_, _, rfl, rfl, q _ H F g (Ex.refl F) (.bl _)⟩
  · cases rx; cases ry; cases h
    exact .inr ⟨_, _, rfl, rfl, q _ H F g (Ex.refl F) (.bl _)⟩
  · cases h
abbrev ltF := ordF (fun i j => decide (i < j)) strLt
abbrev leF := ordF (fun i j => decide (i ≤ j)) (fun x y => !strLt y x)
abbrev gtF := ordF (fun i j => decide (j < i)) (fun x y => strLt y x)
abbrev geF := ordF (fun i j => decide (j ≤ i)) (fun x y => !strLt x y)
section
variable {X : Cx}
theorem op_ltU : OpR X (compareOp .Lt) (rOrd (fun i j => decide (i < j)) strLt) := op_lt.or op_lt_str
theorem op_leU : OpR X (compareOp .LtE) (rOrd (fun i j => decide (i ≤ j)) (fun x y => !strLt y x)) := op_le.or (by
  intro pins s σ H x y v u Q I rx ry h
  obtain ⟨i, j, rfl, rfl, q⟩ := h
  obtain ⟨t, rfl⟩ := rx
  obtain ⟨t', rfl⟩ := ry
  exact PySem.P.le_str (fin_bl I q rfl))
theorem op_gtU : OpR X (compareOp .Gt) (rOrd (fun i j => decide (j < i)) (fun x y => strLt y x)) := op_gt.or (by
  intro pins s σ H x y v u Q I rx ry h
  obtain ⟨i, j, rfl, rfl, q⟩ := h
  obtain ⟨t, rfl⟩ := rx
  obtain ⟨t', rfl⟩ := ry
  exact PySem.P.gt_str (fin_bl I q rfl))
theorem op_geU : OpR X (compareOp .GtE) (rOrd (fun i j => decide (j ≤ i)) (fun x y => !strLt x y)) := op_ge.or (by
  intro pins s σ H x y v u Q I rx ry h
  obtain ⟨i, j, rfl, rfl, q⟩ := h
  obtain ⟨t, rfl⟩ := rx
  obtain ⟨t', rfl⟩ := ry
  exact PySem.P.ge_str (fin_bl I q rfl))
end
/-! ### is None -/
def D.isNon : D → Option Bool
  | .non => some true
  | .dev _ _ => none
  | _ => some false
def isNF : D → D → Option R
  | d, .non => bR d.isNon
  | _, _ => none
def notNF : D → D → Option R
  | d, .non => bR (d.isNon.map (! ·))
  | _, _ => none
theorem Rep.isNon {G : Gd} {F : Hp} {v : V} {d : D} {b : Bool} (h : Rep G F v d) (e : d.isNon = some b) : decide (v = .non) = b := by
  cases h <;> first | (cases e; rfl) | cases e
theorem s_isN {G : Gd} : SOp G (fun x y H Q => y = .non ∧ Q (.bl (decide (x = .non))) H) isNF := by
  intro Z F σ H env x y d e z Q hG g rx ry h q
  unfold isNF at h
  split at h
  · unfold bR at h
    cases hb : d.isNon with
    | none => rw [hb] at h; cases h
    | some b =>
      rw [hb] at h; cases h; cases ry
      exact ⟨rfl, by rw [rx.isNon hb]; exact q _ H F g (Ex.refl F) (.bl b)⟩
  · cases h
theorem s_notN {G : Gd} : SOp G (fun x y H Q => y = .non ∧ Q (.bl (!decide (x = .non))) H) notNF := by
  intro Z F σ H env x y d e z Q hG g rx ry h q
  unfold notNF at h
  split at h
  · unfold bR at h
    cases hb : d.isNon with
    | none => rw [hb] at h; cases h
    | some b =>
      rw [hb] at h; cases h; cases ry
      exact ⟨rfl, by rw [rx.isNon hb]; exact q _ H F g (Ex.refl F) (.bl (!b))⟩
  · cases h
/-! ### in -/
def inS (x y : PySem.Str) : Bool := !(Builtin.Str.occurrences y x 0 y.length 1).isEmpty
def inFl (d : D) (ds : List D) : Option Bool :=
  if flatD d && ds.all flatD then some (inV d.fv (ds.map D.fv)) else none
def inDp (d : D) (ds : List D) : Option Bool :=
  if okD d && okD (.lst ds) then some (ds.any fun z => PyData.eqv z.pyd d.pyd) else none
def inD (d e : D) : Option Bool := match e with
  | .str y => match d with
    | .str x => some (inS x y)
    | _ => none
  | .lst ds => (inFl d ds).or (inDp d ds)
  | .tup ds => inFl d ds
  | _ => none
def inF : D → D → Option R := fun d e => bR (inD d e)
def ninF : D → D → Option R := fun d e => bR ((inD d e).map (! ·))
def rInU (K : PySem.W.Frag) : R2 := fun x y H Q => (fun x y H Q => ∃ i j, x = .str i ∧ y = .str j ∧ Q (.bl (!(Builtin.Str.occurrences j i 0 j.length 1).isEmpty)) H : R2) x y H Q ∨ rIn K false x y H Q ∨ rInD K x y H Q
def rNinU (K : PySem.W.Frag) : R2 := fun x y H Q => (fun x y H Q => ∃ i j, x = .str i ∧ y = .str j ∧ Q (.bl (!(!(Builtin.Str.occurrences j i 0 j.length 1).isEmpty))) H : R2) x y H Q ∨ rIn K true x y H Q ∨ rNotInD K x y H Q
theorem op_inU {X : Cx} (hu : X.A.units + 65 < cLine) : OpR X (compareOp .In) (rInU X.K) := op_in_str.or (op_in_seq.or (op_inD hu))
theorem op_ninU {X : Cx} (hu : X.A.units + 65 < cLine) : OpR X (compareOp .NotIn) (rNinU X.K) := op_notin_str.or (op_notIn_seq.or (op_notInD hu))
theorem any_pyd (d : PyData) : ∀ ds : List D, (pydL ds).any (fun z => PyData.eqv z d) = ds.any fun z => PyData.eqv z.pyd d
  | [] => rfl
  | e :: ds => by rw [pydL, List.any_cons, List.any_cons, any_pyd d ds]
theorem in_core {G : Gd} {Z : Zd} {F : Hp} {σ : L2.St} {H : Hp} {env : Env} {x y : V} {d e : D} {b : Bool} (hG : Z.G = G) (g : Good Z F σ H env) (rx : Rep Z.G F x d) (ry : Rep Z.G F y e) (h : inD d e = some b) :
    (∃ i j, x = .str i ∧ y = .str j ∧ b = !(Builtin.Str.occurrences j i 0 j.length 1).isEmpty) ∨
    (∃ p xs, y = .ref p ∧ (SqL G.K H p xs ∨ SqT G.K H p xs) ∧ flatV x = true ∧ xs.all flatV = true ∧ b = inV x xs) ∨
    (∃ d ds, Dp G.K H x d ∧ Dp G.K H y (.list ds) ∧ SeqAt.shaped d = true ∧ SeqAt.shaped (.list ds) = true ∧ b = ds.any fun z => PyData.eqv z d) := by
  subst hG
  have fl : ∀ {ds : List D} {vs : List V} {b : Bool}, inFl d ds = some b → RepL Z.G F vs ds → flatV x = true ∧ vs.all flatV = true ∧ b = inV x vs := by
    intro ds vs b h r
    unfold inFl at h
    split at h
    · rename_i c
      rw [Bool.and_eq_true] at c
      cases h
      obtain ⟨e1, f1⟩ := rx.fv c.1
      obtain ⟨e2, f2⟩ := r.fv c.2
      exact ⟨f1, f2, by rw [e1, e2]⟩
    · cases h
  unfold inD at h
  cases ry with
  | str y =>
    cases rx <;> first | (cases h; exact .inl ⟨_, _, rfl, rfl, rfl⟩) | cases h
  | lst h1 r1 =>
    rename_i ds
    have ry := Rep.lst h1 r1
    dsimp only at h
    cases hf : inFl d ds with
    | some b' =>
      rw [hf] at h
      cases h
      obtain ⟨f1, f2, f3⟩ := fl hf r1
      exact .inr (.inl ⟨_, _, rfl, .inl (g.fh.lr h1).sq, f1, f2, f3⟩)
    | none =>
      rw [hf, Option.none_or] at h
      unfold inDp at h
      split at h
      · rename_i c
        rw [Bool.and_eq_true] at c
        cases h
        obtain ⟨p1, s1⟩ := okD_dp (rx.mono g.fh) c.1
        obtain ⟨p2, s2⟩ := okD_dp (ry.mono g.fh) c.2
        exact .inr (.inr ⟨_, _, p1, p2, s1, s2, (any_pyd _ _).symm⟩)
      · cases h
  | tup h1 r1 =>
    dsimp only at h
    obtain ⟨f1, f2, f3⟩ := fl h r1
    exact .inr (.inl ⟨_, _, rfl, .inr (g.fh.t h1.t), f1, f2, f3⟩)
  | _ => cases h
theorem s_in {G : Gd} : SOp G (rInU G.K) inF := by
  intro Z F σ H env x y d e z Q hG g rx ry h q
  obtain ⟨b, hb, rfl⟩ : ∃ b, inD d e = some b ∧ z = .sh (.bl b) := by
    unfold inF bR at h
    cases q : inD d e with
    | none => rw [q] at h; cases h
    | some b => rw [q] at h; exact ⟨b, rfl, (Option.some.inj h).symm⟩
  have fin : Q (.bl b) H := q _ H F g (Ex.refl F) (.bl b)
  rcases in_core hG g rx ry hb with ⟨i, j, rfl, rfl, e⟩ | ⟨p, xs, rfl, h1, h2, h3, e⟩ | ⟨d', ds, h1, h2, h3, h4, e⟩
  · exact .inl ⟨i, j, rfl, rfl, by rw [← e]; exact fin⟩
  · exact .inr (.inl ⟨p, xs, rfl, h1, h2, h3, by rw [if_neg Bool.false_ne_true, ← e]; exact fin⟩)
  · exact .inr (.inr ⟨d', ds, h1, h2, h3, h4, by rw [← e]; exact fin⟩)
theorem s_nin {G : Gd} : SOp G (rNinU G.K) ninF := by
  intro Z F σ H env x y d e z Q hG g rx ry h q
  obtain ⟨b, hb, rfl⟩ : ∃ b, inD d e = some b ∧ z = .sh (.bl (!b)) := by
    unfold ninF bR at h
    cases q : inD d e with
    | none => rw [q] at h; cases h
    | some b => rw [q] at h; exact ⟨b, rfl, (Option.some.inj h).symm⟩
  have fin : Q (.bl (!b)) H := q _ H F g (Ex.refl F) (.bl (!b))
  rcases in_core hG g rx ry hb with ⟨i, j, rfl, rfl, e⟩ | ⟨p, xs, rfl, h1, h2, h3, e⟩ | ⟨d', ds, h1, h2, h3, h4, e⟩
  · exact .inl ⟨i, j, rfl, rfl, by rw [← e]; exact fin⟩
  · exact .inr (.inl ⟨p, xs, rfl, h1, h2, h3, by rw [if_pos rfl, ← e]; exact fin⟩)
  · exact .inr (.inr ⟨d', ds, h1, h2, h3, h4, by rw [← e]; exact fin⟩)
/-! ### x[i] -/
def ixF : D → D → Option R
  | .lst ds, .int i => (atI ds i).map .sh
  | .tup ds, .int i => (atI ds i).map .sh
  | .str x, .int i => if x.length ≤ 1000000 then (atI x.cps.toList i).map fun c => .sh (.str ⟨#[c]⟩) else none
  | _, _ => none
theorem atI_some {α : Type} {xs : List α} {i : Int} {v : α} (h : atI xs i = some v) : ∃ j, ixN xs.length i = some j ∧ xs[j]? = some v := by
  unfold atI at h
  cases e : ixN xs.length i with
  | none => rw [e] at h; cases h
  | some j => rw [e] at h; exact ⟨j, rfl, h⟩
theorem RepL.atI {G : Gd} {F : Hp} {vs : List V} {ds : List D} {i : Int} {d : D} (r : RepL G F vs ds) (h : L2.atI ds i = some d) : ∃ v, L2.atI vs i = some v ∧ Rep G F v d := by
  obtain ⟨j, h1, h2⟩ := atI_some h
  obtain ⟨v, h3, h4⟩ := r.get h2
  refine ⟨v, ?_, h4⟩
  unfold L2.atI
  rw [r.length, h1]
  exact h3
theorem s_ix {G : Gd} : SOp G (rIx G.K) ixF := by
  intro Z F σ H env x y d e z Q hG g rx ry h q
  subst hG
  unfold ixF at h
  split at h
  · rename_i ds i
    cases ha : L2.atI ds i with
    | none => rw [ha] at h; cases h
    | some d =>
      rw [ha] at h; cases h; cases ry
      cases rx with
      | lst h1 r1 =>
        obtain ⟨v, h3, h4⟩ := r1.atI ha
        exact .inl ⟨_, _, _, _, rfl, rfl, (g.fh.lr h1).sq, h3, q _ H F g (Ex.refl F) h4⟩
  · rename_i ds i
    cases ha : L2.atI ds i with
    | none => rw [ha] at h; cases h
    | some d =>
      rw [ha] at h; cases h; cases ry
      cases rx with
      | tup h1 r1 =>
        obtain ⟨v, h3, h4⟩ := r1.atI ha
        exact .inr (.inl ⟨_, _, _, _, rfl, rfl, g.fh.t h1.t, h3, q _ H F g (Ex.refl F) h4⟩)
  · rename_i x i
    split at h
    · rename_i hl
      cases ha : L2.atI x.cps.toList i with
      | none => rw [ha] at h; cases h
      | some c =>
        rw [ha] at h; cases h; cases ry; cases rx
        exact .inr (.inr ⟨_, _, _, rfl, rfl, Nat.le_trans hl big_line, ha, q _ H F g (Ex.refl F) (.str _)⟩)
    · cases h
  · cases h
end FE

namespace FE
open PySem PySem.Spec PyProof.Rows L2

/-! ### lists of one kind -/
def intsD : List D → Option (List Int)
  | [] => some []
  | .int i :: ds => (intsD ds).map (i :: ·)
  | _ => none
def bolsD : List D → Option (List Bool)
  | [] => some []
  | .bl i :: ds => (bolsD ds).map (i :: ·)
  | _ => none
def strsD : List D → Option (List PySem.Str)
  | [] => some []
  | .str i :: ds => (strsD ds).map (i :: ·)
  | _ => none
section
variable {G : Gd} {F : Hp}
theorem RepL.ints : ∀ {vs : List V} {ds : List D} {ns : List Int}, RepL G F vs ds → intsD ds = some ns → vs = ns.map V.int
  | _, _, _, .nil, h => by cases h; rfl
  | _, d :: ds, ns, .cons h r, e => by
    cases d <;> try cases e
    rename_i i
    cases h
    unfold intsD at e
    cases q : intsD ds with
    | none => rw [q] at e; cases e
    | some ms =>
      rw [q] at e
      cases e
      rw [List.map_cons, ← RepL.ints r q]
theorem RepL.bols : ∀ {vs : List V} {ds : List D} {ns : List Bool}, RepL G F vs ds → bolsD ds = some ns → vs = ns.map V.bl
  | _, _, _, .nil, h => by cases h; rfl
  | _, d :: ds, ns, .cons h r, e => by
    cases d <;> try cases e
    rename_i i
    cases h
    unfold bolsD at e
    cases q : bolsD ds with
    | none => rw [q] at e; cases e
    | some ms =>
      rw [q] at e
      cases e
      rw [List.map_cons, ← RepL.bols r q]
theorem RepL.strs : ∀ {vs : List V} {ds : List D} {ns : List PySem.Str}, RepL G F vs ds → strsD ds = some ns → vs = ns.map V.str
  | _, _, _, .nil, h => by cases h; rfl
  | _, d :: ds, ns, .cons h r, e => by
    cases d <;> try cases e
    rename_i i
    cases h
    unfold strsD at e
    cases q : strsD ds with
    | none => rw [q] at e; cases e
    | some ms =>
      rw [q] at e
      cases e
      rw [List.map_cons, ← RepL.strs r q]
theorem RepL.one {vs : List V} {d : D} (r : RepL G F vs [d]) : ∃ v, vs = [v] ∧ Rep G F v d := by
  cases r with
  | cons h t =>
    cases t
    exact ⟨_, rfl, h⟩
theorem RepL.two {vs : List V} {d e : D} (r : RepL G F vs [d, e]) : ∃ v w, vs = [v, w] ∧ Rep G F v d ∧ Rep G F w e := by
  cases r with
  | cons h t =>
    obtain ⟨w, rfl, h2⟩ := RepL.one t
    exact ⟨_, w, rfl, h, h2⟩
end

/-! ### built-in functions -/
/-- len -/
def lenF : List D → Option R
  | [.str x] => if x.length ≤ 1000000 then some (.sh (.int x.length)) else none
  | [.lst ds] => some (.sh (.int ds.length))
  | [.tup ds] => some (.sh (.int ds.length))
  | _ => none
theorem s_len {G : Gd} : SCall G (fun xs H Q => ∃ x n, xs = [x] ∧ LenV G.K x H n ∧ Q (.int n) H) lenF := by
  intro Z F σ H env xs ds z Q hG g r h q
  subst hG
  unfold lenF at h
  split at h
  · split at h
    · rename_i hl
      obtain ⟨v, rfl, rv⟩ := r.one
      cases rv; cases h
      exact ⟨_, _, rfl, ⟨Nat.le_trans hl big_line, rfl⟩, q _ H F g (Ex.refl F) (.int _)⟩
    · cases h
  · obtain ⟨v, rfl, rv⟩ := r.one
    cases rv with
    | lst h1 r1 =>
      cases h
      exact ⟨_, _, rfl, .inl ⟨_, (g.fh.lr h1).sq, rfl⟩, q _ H F g (Ex.refl F) (by rw [r1.length]; exact .int _)⟩
  · obtain ⟨v, rfl, rv⟩ := r.one
    cases rv with
    | tup h1 r1 =>
      cases h
      exact ⟨_, _, rfl, .inr ⟨_, g.fh.t h1.t, rfl⟩, q _ H F g (Ex.refl F) (by rw [r1.length]; exact .int _)⟩
  · cases h
def intF (f : Int → Int) : List D → Option R
  | [.int i] => some (.sh (.int (f i)))
  | _ => none
theorem s_abs {G : Gd} : SCall G (fun xs H Q => ∃ i, xs = [.int i] ∧ Q (.int (if i < 0 then -i else i)) H) (intF fun i => if i < 0 then -i else i) := by
  intro Z F σ H env xs ds z Q hG g r h q
  unfold intF at h
  split at h
  · obtain ⟨v, rfl, rv⟩ := r.one
    cases rv; cases h
    exact ⟨_, rfl, q _ H F g (Ex.refl F) (.int _)⟩
  · cases h
def mx (i j : Int) : Int := if j > i then j else i
def mn (i j : Int) : Int := if j < i then j else i
def rMax' (K : PySem.W.Frag) : List V → Hp → VK → Prop := fun xs H Q => (fun xs H Q => ∃ i j, xs = [.int i, .int j] ∧ Q (.int (if j > i then j else i)) H : List V → Hp → VK → Prop) xs H Q ∨ rMax K xs H Q
def rMin' (K : PySem.W.Frag) : List V → Hp → VK → Prop := fun xs H Q => (fun xs H Q => ∃ i j, xs = [.int i, .int j] ∧ Q (.int (if j < i then j else i)) H : List V → Hp → VK → Prop) xs H Q ∨ rMin K xs H Q
def mxL : Int → List Int → Int
  | m, [] => m
  | m, x :: xs => mxL (mx m x) xs
def mnL : Int → List Int → Int
  | m, [] => m
  | m, x :: xs => mnL (mn m x) xs
theorem mxL_ge : ∀ (xs : List Int) (m : Int), m ≤ mxL m xs ∧ (∀ y ∈ xs, y ≤ mxL m xs) ∧ (mxL m xs = m ∨ mxL m xs ∈ xs)
  | [], m => ⟨Int.le_refl _, (fun _ h => by cases h), Or.inl rfl⟩
  | x :: xs, m => by
    obtain ⟨h1, h2, h3⟩ := mxL_ge xs (mx m x)
    have hm : m ≤ mx m x ∧ x ≤ mx m x ∧ (mx m x = m ∨ mx m x = x) := by unfold mx; split <;> omega
    refine ⟨Int.le_trans hm.1 h1, fun y hy => ?_, ?_⟩
    · rcases List.mem_cons.mp hy with rfl | hy
      · exact Int.le_trans hm.2.1 h1
      · exact h2 y hy
    · show mxL (mx m x) xs = m ∨ mxL (mx m x) xs ∈ x :: xs
      rcases h3 with h3 | h3
      · rw [h3]
        rcases hm.2.2 with e | e
        · exact .inl e
        · exact .inr (by rw [e]; exact List.mem_cons_self)
      · exact .inr (List.mem_cons_of_mem _ h3)
theorem mnL_le : ∀ (xs : List Int) (m : Int), mnL m xs ≤ m ∧ (∀ y ∈ xs, mnL m xs ≤ y) ∧ (mnL m xs = m ∨ mnL m xs ∈ xs)
  | [], m => ⟨Int.le_refl _, (fun _ h => by cases h), Or.inl rfl⟩
  | x :: xs, m => by
    obtain ⟨h1, h2, h3⟩ := mnL_le xs (mn m x)
    have hm : mn m x ≤ m ∧ mn m x ≤ x ∧ (mn m x = m ∨ mn m x = x) := by unfold mn; split <;> omega
    refine ⟨Int.le_trans h1 hm.1, fun y hy => ?_, ?_⟩
    · rcases List.mem_cons.mp hy with rfl | hy
      · exact Int.le_trans h1 hm.2.1
      · exact h2 y hy
    · show mnL (mn m x) xs = m ∨ mnL (mn m x) xs ∈ x :: xs
      rcases h3 with h3 | h3
      · rw [h3]
        rcases hm.2.2 with e | e
        · exact .inl e
        · exact .inr (by rw [e]; exact List.mem_cons_self)
      · exact .inr (List.mem_cons_of_mem _ h3)
def maxF : List D → Option R
  | [.int i, .int j] => some (.sh (.int (mx i j)))
  | [.lst ds] => match intsD ds with
    | some (n :: ns) => some (.sh (.int (mxL n ns)))
    | _ => none
  | _ => none
def minF : List D → Option R
  | [.int i, .int j] => some (.sh (.int (mn i j)))
  | [.lst ds] => match intsD ds with
    | some (n :: ns) => some (.sh (.int (mnL n ns)))
    | _ => none
  | _ => none
theorem s_max {G : Gd} : SCall G (rMax' G.K) maxF := by
  intro Z F σ H env xs ds z Q hG g r h q
  subst hG
  unfold maxF at h
  split at h
  · obtain ⟨v, w, rfl, rv, rw'⟩ := r.two
    cases rv; cases rw'; cases h
    exact .inl ⟨_, _, rfl, q _ H F g (Ex.refl F) (.int _)⟩
  · obtain ⟨v, rfl, rv⟩ := r.one
    cases rv with
    | lst h1 r1 =>
      split at h
      · rename_i n ns e
        cases h
        have ev := r1.ints e
        subst ev
        refine .inr ⟨_, n :: ns, rfl, (g.fh.lr h1).sq, Nat.succ_pos _, fun m hm hy => ?_⟩
        obtain ⟨g1, g2, g3⟩ := mxL_ge ns n
        have e1 : m ≤ mxL n ns := (List.mem_cons.mp hm).elim (fun z => by omega) (g2 m)
        have e2 : mxL n ns ≤ m := g3.elim (fun z => by rw [z]; exact hy n List.mem_cons_self) (fun z => hy _ (List.mem_cons_of_mem _ z))
        rw [Int.le_antisymm e1 e2]
        exact q _ H F g (Ex.refl F) (.int _)
      · cases h
  · cases h
theorem s_min {G : Gd} : SCall G (rMin' G.K) minF := by
  intro Z F σ H env xs ds z Q hG g r h q
  subst hG
  unfold minF at h
  split at h
  · obtain ⟨v, w, rfl, rv, rw'⟩ := r.two
    cases rv; cases rw'; cases h
    exact .inl ⟨_, _, rfl, q _ H F g (Ex.refl F) (.int _)⟩
  · obtain ⟨v, rfl, rv⟩ := r.one
    cases rv with
    | lst h1 r1 =>
      split at h
      · rename_i n ns e
        cases h
        have ev := r1.ints e
        subst ev
        refine .inr ⟨_, n :: ns, rfl, (g.fh.lr h1).sq, Nat.succ_pos _, fun m hm hy => ?_⟩
        obtain ⟨g1, g2, g3⟩ := mnL_le ns n
        have e1 : mnL n ns ≤ m := (List.mem_cons.mp hm).elim (fun z => by omega) (g2 m)
        have e2 : m ≤ mnL n ns := g3.elim (fun z => by rw [z]; exact hy n List.mem_cons_self) (fun z => hy _ (List.mem_cons_of_mem _ z))
        rw [Int.le_antisymm e2 e1]
        exact q _ H F g (Ex.refl F) (.int _)
      · cases h
  · cases h
def sumF : List D → Option R
  | [.lst ds] => (intsD ds).map fun ns => .sh (.int ns.sum)
  | _ => none
theorem s_sum {G : Gd} : SCall G (rSum G.K) sumF := by
  intro Z F σ H env xs ds z Q hG g r h q
  subst hG
  unfold sumF at h
  split at h
  · rename_i ds
    obtain ⟨v, rfl, rv⟩ := r.one
    cases rv with
    | lst h1 r1 =>
      cases e : intsD ds with
      | none => rw [e] at h; cases h
      | some ns =>
        rw [e] at h; cases h
        have ev := r1.ints e
        subst ev
        exact ⟨_, ns, rfl, (g.fh.lr h1).sq, q _ H F g (Ex.refl F) (.int _)⟩
  · cases h
def bolF (f : List Bool → Bool) : List D → Option R
  | [.lst ds] => (bolsD ds).map fun ns => .sh (.bl (f ns))
  | _ => none
theorem s_all {G : Gd} : SCall G (rAll G.K) (bolF fun bs => bs.all id) := by
  intro Z F σ H env xs ds z Q hG g r h q
  subst hG
  unfold bolF at h
  split at h
  · rename_i ds
    obtain ⟨v, rfl, rv⟩ := r.one
    cases rv with
    | lst h1 r1 =>
      cases e : bolsD ds with
      | none => rw [e] at h; cases h
      | some ns =>
        rw [e] at h; cases h
        have ev := r1.bols e
        subst ev
        exact ⟨_, ns, rfl, (g.fh.lr h1).sq, q _ H F g (Ex.refl F) (.bl _)⟩
  · cases h
theorem s_any {G : Gd} : SCall G (rAny G.K) (bolF fun bs => bs.any id) := by
  intro Z F σ H env xs ds z Q hG g r h q
  subst hG
  unfold bolF at h
  split at h
  · rename_i ds
    obtain ⟨v, rfl, rv⟩ := r.one
    cases rv with
    | lst h1 r1 =>
      cases e : bolsD ds with
      | none => rw [e] at h; cases h
      | some ns =>
        rw [e] at h; cases h
        have ev := r1.bols e
        subst ev
        exact ⟨_, ns, rfl, (g.fh.lr h1).sq, q _ H F g (Ex.refl F) (.bl _)⟩
  · cases h
/-- tuple(..), list(..) -/
def tupF : List D → Option R
  | [.lst ds] => some (.sh (.tup ds))
  | [.tup ds] => some (.sh (.tup ds))
  | _ => none
def lstF : List D → Option R
  | [.lst ds] => some (.ow ds)
  | [.tup ds] => some (.ow ds)
  | _ => none
/-- tuple(x) -/
theorem call_tupleN {X : Cx} : CallR X (.type "tuple") (fun xs H Q => ∃ p ys, xs = [.ref p] ∧ ((SqL X.K H p ys ∧ ∀ (l : Addr) (o : Obj), H l = none → o.dict = none → Q (.ref l) (upd H l (.frz o (.tup ys)))) ∨ (SqT X.K H p ys ∧ Q (.ref p) H))) := by
  intro pins s σ H xs us Q I r h
  obtain ⟨p, ys, rfl, h⟩ := h
  obtain ⟨u, rfl, rx⟩ := vals1 r
  cases rx
  rcases h with ⟨hq, q⟩ | ⟨hq, q⟩
  · obtain ⟨its, r', pl, hz⟩ := I.list hq
    have hlen := r'.length
    refine call_tuple_list pl.isList (fun h' kp => ?_) (by simp only [List.size_toArray] <;> omega)
    have I1 : Inv X pins σ H { s with heap := h' } := I.kept (t' := s.toks) kp
    refine ⟨.ref h'.objs.size, _, I1.laid (t' := s.toks) (o := .frz { cls := .type "tuple", data := .seq its.toArray } (.tup ys)) (fun b o e => Heap.get?_push_of_some _ e) (Nat.le_refl _) ?_, rfl, q _ _ (I1.hok.fresh (Nat.le_refl _)) rfl⟩
    exact ⟨Heap.get?_push_size _ rfl, hz, its, r', IsTup.new _ _⟩
  · obtain ⟨its, r', pl, hz⟩ := I.tuple hq
    exact call_tuple_same pl ⟨.ref p, H, I, rfl, q⟩
theorem s_tup {G : Gd} : SCall G (fun xs H Q => ∃ p ys, xs = [.ref p] ∧ ((SqL G.K H p ys ∧ ∀ (l : Addr) (o : Obj), H l = none → o.dict = none → Q (.ref l) (upd H l (.frz o (.tup ys)))) ∨ (SqT G.K H p ys ∧ Q (.ref p) H))) tupF := by
  intro Z F σ H env xs ds z Q hG g r h q
  subst hG
  unfold tupF at h
  split at h
  · obtain ⟨v, rfl, rv⟩ := r.one
    cases rv with
    | lst h1 r1 =>
      cases h
      exact ⟨_, _, rfl, .inl ⟨(g.fh.lr h1).sq, fun p o hp ho => q _ _ _ (g.layF hp) (Ex.new (g.fresh hp)) (.tup (.new ho) (r1.mono (Ex.new (g.fresh hp))))⟩⟩
  · obtain ⟨v, rfl, rv⟩ := r.one
    cases rv with
    | tup h1 r1 =>
      cases h
      exact ⟨_, _, rfl, .inr ⟨g.fh.t h1.t, q _ H F g (Ex.refl F) (.tup h1 r1)⟩⟩
  · cases h
theorem s_lst {G : Gd} : SCall G (fun xs H Q => ∃ p ys, xs = [.ref p] ∧ (SqL G.K H p ys ∨ SqT G.K H p ys) ∧ ∀ l, H l = none → Q (.ref l) (upd H l (.lst ys))) lstF := by
  intro Z F σ H env xs ds z Q hG g r h q
  subst hG
  unfold lstF at h
  split at h
  · obtain ⟨v, rfl, rv⟩ := r.one
    cases rv with
    | lst h1 r1 =>
      cases h
      exact ⟨_, _, rfl, .inl (g.fh.lr h1).sq, fun p hp => q _ _ _ (g.lay hp) (Ex.refl F) (g.mine hp r1)⟩
  · obtain ⟨v, rfl, rv⟩ := r.one
    cases rv with
    | tup h1 r1 =>
      cases h
      exact ⟨_, _, rfl, .inr (g.fh.t h1.t), fun p hp => q _ _ _ (g.lay hp) (Ex.refl F) (g.mine hp r1)⟩
  · cases h
def gcdF : List D → Option R
  | [.int a, .int b] => some (.sh (.int ((Nat.gcd a.natAbs b.natAbs : Nat) : Int)))
  | _ => none
theorem s_gcd {G : Gd} : SCall G rGcd gcdF := by
  intro Z F σ H env xs ds z Q hG g r h q
  unfold gcdF at h
  split at h
  · obtain ⟨v, w, rfl, rv, rw'⟩ := r.two
    cases rv; cases rw'; cases h
    exact ⟨_, _, rfl, q _ H F g (Ex.refl F) (.int _)⟩
  · cases h
/-- str(..) -/
def strF : List D → Option R
  | [.int i] => if i.natAbs.log2 < 1920 then some (.sh (.str (toString i : String))) else none
  | [.str x] => some (.sh (.str x))
  | _ => none
def rStrU : List V → Hp → VK → Prop := fun xs H Q => (fun xs H Q => ∃ i, xs = [.int i] ∧ i.natAbs.log2 < 1920 ∧ Q (.str (toString i : String)) H : List V → Hp → VK → Prop) xs H Q ∨ (fun xs H Q => ∃ a, xs = [.str a] ∧ Q (.str a) H : List V → Hp → VK → Prop) xs H Q
theorem s_str {G : Gd} : SCall G rStrU strF := by
  intro Z F σ H env xs ds z Q hG g r h q
  unfold strF at h
  split at h
  · split at h
    · rename_i c
      obtain ⟨v, rfl, rv⟩ := r.one
      cases rv; cases h
      exact .inl ⟨_, rfl, c, q _ H F g (Ex.refl F) (.str _)⟩
    · cases h
  · obtain ⟨v, rfl, rv⟩ := r.one
    cases rv; cases h
    exact .inr ⟨_, rfl, q _ H F g (Ex.refl F) (.str _)⟩
  · cases h
/-! ### isinstance with a built-in type -/
inductive Ty where
  | int | bool | str | tuple | list | dict
def Ty.name : Ty → String
  | .int => "int"
  | .bool => "bool"
  | .str => "str"
  | .tuple => "tuple"
  | .list => "list"
  | .dict => "dict"
def isiD (d : D) (t : Ty) : Option Bool := match d with
  | .non => some false
  | .bl _ => match t with
    | .int => some true
    | .bool => some true
    | _ => some false
  | .int _ => match t with
    | .int => some true
    | _ => some false
  | .str _ => match t with
    | .str => some true
    | _ => some false
  | .tup _ => match t with
    | .tuple => some true
    | _ => some false
  | .lst _ => match t with
    | .list => some true
    | _ => some false
  | .dic _ _ => match t with
    | .dict => some true
    | _ => some false
  | _ => none
def ownT : D → String
  | .non => "NoneType"
  | .bl _ => "bool"
  | .int _ => "int"
  | .str _ => "str"
  | .tup _ => "tuple"
  | .lst _ => "list"
  | _ => "dict"
theorem kit_all {d : D} {t : Ty} {b : Bool} (h : isiD d t = some b) : kitB (ownT d) t.name = some b := by
  cases d <;> cases t <;> first | (cases h; simp only [ownT, Ty.name]; decide +kernel) | cases h
def isiF (t : Ty) : D → Option R := fun d => bR (isiD d t)
def rIsi1 (K : PySem.W.Frag) (n : String) : V → Hp → VK → Prop := fun x H Q => ∃ (t : Value) (b : Bool), TyX K H x t ∧ PySem.W.kitOne K t (.type n) = some b ∧ Q (.bl b) H
theorem s_isi {G : Gd} {t : Ty} : SUn G (rIsi1 G.K t.name) (isiF t) := by
  intro Z F σ H env x d z Q hG g rx h q
  subst hG
  unfold isiF bR at h
  cases e : isiD d t with
  | none => rw [e] at h; cases h
  | some b =>
    rw [e] at h; cases h
    have k := kit_ty (K := Z.G.K) (kit_all e)
    have fin : Q (.bl b) H := q _ H F g (Ex.refl F) (.bl b)
    cases rx with
    | non => exact ⟨_, b, .base .non, k, fin⟩
    | bl _ => exact ⟨_, b, .base (.bl _), k, fin⟩
    | int _ => exact ⟨_, b, .base (.int _), k, fin⟩
    | str _ => exact ⟨_, b, .base (.str _), k, fin⟩
    | tup h1 r1 =>
      refine ⟨_, b, ?_, k, fin⟩
      rcases g.fh.t h1.t with (h1 | ⟨o, h1⟩) | ⟨o, its, n, h1, h2, _⟩
      · exact .base (.tup h1)
      · exact .fTuple h1
      · exact .kTuple h1 h2
    | lst h1 r1 =>
      refine ⟨_, b, ?_, k, fin⟩
      rcases g.fh.lr h1 with (h1 | ⟨o, h1⟩) | ⟨its, n, h1, _⟩
      · exact .base (.lst h1)
      · exact .base (.frz h1)
      · exact .kList h1 rfl
    | dic h1 l r1 => exact ⟨_, b, .base (.dK (g.fh _ _ h1)), k, fin⟩
    | obj h1 h2 h3 h4 r1 => cases e
    | wtp h1 r1 => cases e
    | dev j x => cases e
section
variable {X : Cx} {Z : Zd} {a : Expr} {oa : Env → OE} {p p2 pos : Pos}
theorem n_isi (t : Ty) (hg : Gl X "isinstance" := by rfl) (hm : X.mg "isinstance" = none) {y : PySem.Str} (hy : Gl X y := by rfl) (hmy : X.mg y = none) (hv : bootBuiltins y = some (.type t.name) := by decide +kernel) (ha : PE X a (tE Z oa)) (hK : Z.G.K = X.K)
    (hdb : (y == ("__debug__" : PySem.Str)) = false := by decide) (hnn : y ≠ "__name__" := by decide)
    (he : starEach [a, .Name y p2] X.env = (false, eval a X.env) :: starEach [.Name y p2] X.env := by rfl) :
    PE X (.Call (.Name "isinstance" p) [a, .Name y p2] [] pos) (tE Z (oUn (isiF t) oa)) := by
  have pn : PE X (.Name y p2) (tC (.ty t.name)) := pe_bltn hy hmy hv rfl hnn hdb
  refine PE.imp (pe_callB call_isi hg hm (by decide +kernel) (pa_cons ha (pa_cons pn pa_nil) he) (he := he)) fun σ H Q ⟨F, env, g, h⟩ => ?_
  refine seqE g h fun r1 env1 v1 H1 F1 g1 x1 rp1 h1 => ?_
  cases e : isiF t r1.fz with
  | none =>
    rw [e] at h1
    exact h1.elim
  | some z =>
    rw [e] at h1
    obtain ⟨u, b, h2, h3, h4⟩ := s_isi Z F1 σ H1 env1 v1 _ z Q rfl g1 rp1 e h1
    rw [hK] at h2 h3
    exact ⟨v1, .ty t.name, u, _, b, rfl, .ty _, h2, h3, h4⟩
end
/-! ### repr -/
def D.pyk : Key → PyData
  | .inl i => .int i
  | .inr x => .str x
def pyS : D → Option PyData
  | .dic ks ds => if ds.all flatD && decide (ks.length = ds.length) then some (.dict ((ks.map D.pyk).zip (pydL ds))) else none
  | d => if d.plain then some d.pyd else none
def okShow (p : PyData) : Bool := p.showable && ((p.leavesShort 1921 && decide (p.bulk ≤ 8000)) || (p.leavesShort 120 && decide (p.bulk ≤ 100000))) && decide (p.depth ≤ 60)
def reprF : List D → Option R
  | [d] => match pyS d with
    | some p => if okShow p then some (.sh (.str p.shown)) else none
    | none => none
  | _ => none
def flatP : PyData → Bool
  | .none => true
  | .bool _ => true
  | .int _ => true
  | .str _ => true
  | _ => false
def rRepr (K : PySem.W.Frag) : List V → Hp → VK → Prop := fun xs H Q => ∃ (x : V) (p : PyData), xs = [x] ∧ okShow p = true ∧
  (Dp K H x p ∨ ∃ (a : Addr) (ks : List Key) (vs : List V) (ds : List PyData), x = .ref a ∧ H a = some (.dK (ks.zip vs)) ∧ ks.length = vs.length ∧ DpAll K H vs ds ∧ ds.all flatP = true ∧ p = .dict ((ks.map D.pyk).zip ds)) ∧ Q (.str p.shown) H
section
variable {K : PySem.W.Frag} {H : Hp}
mutual
theorem dp_noDict : ∀ {v : V} {p : PyData}, Dp K H v p → p.hasDict = false
  | _, _, .non => by simp only [PyData.hasDict]
  | _, _, .bl b => by simp only [PyData.hasDict]
  | _, _, .int i => by simp only [PyData.hasDict]
  | _, _, .str x => by simp only [PyData.hasDict]
  | _, _, .lst _ h => by simp only [PyData.hasDict, dpAll_noDict h]
  | _, _, .tup _ h => by simp only [PyData.hasDict, dpAll_noDict h]
theorem dpAll_noDict : ∀ {vs : List V} {ps : List PyData}, DpAll K H vs ps → PyData.hasDictAll ps = false
  | _, _, .nil => by simp only [PyData.hasDictAll]
  | _, _, .cons h r => by simp only [PyData.hasDictAll, dp_noDict h, dpAll_noDict r, Bool.or_false]
end
theorem reads_flat {h : Heap} {v : V} {p : PyData} {u : Value} (a : Dp K H v p) (b : RelV v u) (f : flatP p = true) : Reads h u p [] := by
  cases a with
  | non => cases b; exact .none
  | bl x => cases b; exact .bool x
  | int i => obtain ⟨t, rfl⟩ := b; exact .int i t
  | str x => obtain ⟨t, rfl⟩ := b; exact .str x t
  | lst _ _ => cases f
  | tup _ _ => cases f
theorem pairs_reads {P : Program} {w : World} {h : Heap} {H' : Hp} : ∀ {es : List DictEntry} {ks : List Key} {vs : List V} {kvs : List (Key × Value)} {ps : List PyData}, Pairs (mixKind P w) es kvs → KV (ks.zip vs) kvs → ks.length = vs.length → DpAll K H' vs ps → ps.all flatP = true →
    ReadsAll h (es.map (·.key)) (((ks.map D.pyk).zip ps).map (·.1)) [] ∧ ReadsAll h (es.map (·.val)) (((ks.map D.pyk).zip ps).map (·.2)) []
  | [], [], [], _, ps, _, _, _, d, _ => by
    cases d
    exact ⟨.nil, .nil⟩
  | _, _ :: _, [], _, _, _, _, l, _, _ => by cases l
  | _, [], _ :: _, _, _, _, _, l, _, _ => by cases l
  | e :: es, [], [], kvs, _, p, r, _, _, _ => by
    cases p
    cases r
  | es, k :: ks, v :: vs, kvs, ps, p, r, l, d, f => by
    cases d with
    | cons d1 d2 =>
      cases r with
      | cons r1 r2 =>
        cases p with
        | cons p1 p2 p3 =>
          rw [List.all_cons, Bool.and_eq_true] at f
          obtain ⟨a1, a2⟩ := pairs_reads (h := h) p3 r2 (Nat.succ.inj l) d2 f.2
          have e1 := r1.1
          have e2 := r1.2
          rw [← p2] at e2
          rw [← e1] at p1
          refine ⟨ReadsAll.cons (as := []) (bs := []) ?_ a1, ReadsAll.cons (as := []) (bs := []) (reads_flat d1 e2 f.1) a2⟩
          rcases keyIs_shape p1 with ⟨i, t, e3, e4⟩ | ⟨x, t, e3, e4⟩
          · dsimp only at e3
            subst e3
            show Reads h (DictEntry.key _) (.int i) []
            rw [e4]
            exact .int i t
          · dsimp only at e3
            subst e3
            show Reads h (DictEntry.key _) (.str x) []
            rw [e4]
            exact .str x t
end
theorem okShow_fits {p : PyData} (h : okShow p = true) : p.showable = true ∧ p.shown.length ≤ sizeLine ∧ p.depth ≤ 60 := by
  unfold okShow at h
  simp only [Bool.and_eq_true, Bool.or_eq_true, decide_eq_true_eq] at h
  obtain ⟨⟨h1, h2⟩, h4⟩ := h
  refine ⟨h1, ?_, h4⟩
  rw [sizeLine_eq]
  rcases h2 with ⟨h2, h3⟩ | ⟨h2, h3⟩
  · have h5 := PyData.shown_le_bulk 1921 (by decide) p h2
    omega
  · have h5 := PyData.shown_le_bulk 120 (by decide) p h2
    omega
theorem call_reprU {X : Cx} (hu : X.A.units + 150 < cLine) (hg : X.A.guards = some []) : CallR X (.builtin "repr") (rRepr X.K) := by
  intro pins s σ H xs us Q I r h
  obtain ⟨x, p, rfl, ok, hd, q⟩ := h
  obtain ⟨h1, h2, h3⟩ := okShow_fits ok
  obtain ⟨v, rfl, rv⟩ := vals1 r
  rcases hd with hd | ⟨a, ks, vs, ds, rfl, hH, hl, hds, hf, rfl⟩
  · have nd := dp_noDict hd
    obtain ⟨as, rd⟩ := Dp.reads I p x v hd rv
    cases rd with
    | none => exact PySem.P.repr_of_none ⟨.str _, H, I.tok _, ⟨_, rfl⟩, q⟩
    | bool b => exact PySem.P.repr_of_bool ⟨.str _, H, I.tok _, ⟨_, rfl⟩, q⟩
    | int i t =>
      have h1' : i.natAbs.log2 < 1920 := by simpa only [PyData.showable, decide_eq_true_eq] using h1
      exact PySem.P.repr_of_int h1' ⟨.str _, H, I.tok _, ⟨_, rfl⟩, q⟩
    | str z t => exact PySem.P.repr_of_str ⟨.str _, H, I.tok _, ⟨_, rfl⟩, q⟩ h2
    | list a1 a2 a3 a4 =>
      exact repr_of_reads' (.list a1 a2 a3 a4) h1 (PyData.noDict_hsm nd) hg (by omega) (fun _ _ e => e) (fun h' u tk hk => ⟨.str _, H, I.kept (t' := tk) hk, ⟨u, rfl⟩, q⟩) h2
    | tuple a1 a2 a3 a4 =>
      exact repr_of_reads' (.tuple a1 a2 a3 a4) h1 (PyData.noDict_hsm nd) hg (by omega) (fun _ _ e => e) (fun h' u tk hk => ⟨.str _, H, I.kept (t' := tk) hk, ⟨u, rfl⟩, q⟩) h2
    | dict a1 a2 a3 a4 a5 => cases hd
  · cases rv
    obtain ⟨_, hs, ws, kv, o, es, ep, e1, e2, e3, e4, e5, _⟩ := I.hok a _ hH
    obtain ⟨k1, k2⟩ := pairs_reads (h := s.heap) e5 kv hl hds hf
    refine repr_of_reads' (.dict e1 e2.1 e3 k1 k2) h1 (fun _ hm => ?_) hg (by omega) (fun _ _ e => e) (fun h' u tk hk => ⟨.str _, H, I.kept (t' := tk) hk, ⟨u, rfl⟩, q⟩) h2
    have hm' : sysModules = a := by simpa using hm
    rw [hm'] at hs
    simp at hs
theorem s_repr {G : Gd} : SCall G (rRepr G.K) reprF := by
  intro Z F σ H env xs ds z Q hG g r h q
  subst hG
  unfold reprF at h
  split at h
  · rename_i d
    obtain ⟨v, rfl, rv⟩ := r.one
    cases e : pyS d with
    | none => rw [e] at h; cases h
    | some p =>
      rw [e] at h
      dsimp only at h
      split at h
      · rename_i ok
        cases h
        refine ⟨v, p, rfl, ok, ?_, q _ H F g (Ex.refl F) (.str _)⟩
        cases rv with
        | dic h1 l r1 =>
          rename_i a ks vs ds
          unfold pyS at e
          dsimp only at e
          split at e
          · rename_i c
            rw [Bool.and_eq_true, decide_eq_true_eq] at c
            cases e
            refine .inr ⟨a, ks, vs, pydL ds, rfl, g.fh _ _ h1, l, ?_, ?_, rfl⟩
            · have pl : plainL ds = true := by
                have : ∀ ds : List D, ds.all flatD = true → plainL ds = true := by
                  intro ds
                  induction ds with
                  | nil => intro _; rfl
                  | cons d ds ih =>
                    intro f
                    rw [List.all_cons, Bool.and_eq_true] at f
                    rw [plainL, ih f.2, Bool.and_true]
                    cases d <;> first | rfl | cases f.1
                exact this ds c.1
              exact (r1.mono g.fh).dp pl
            · have : ∀ ds : List D, ds.all flatD = true → (pydL ds).all flatP = true := by
                intro ds
                induction ds with
                | nil => intro _; rfl
                | cons d ds ih =>
                  intro f
                  rw [List.all_cons, Bool.and_eq_true] at f
                  rw [pydL, List.all_cons, ih f.2, Bool.and_true]
                  cases d <;> first | rfl | cases f.1
              exact this ds c.1
          · cases e
        | non => cases e; exact .inl .non
        | bl b => cases e; exact .inl (.bl b)
        | int b => cases e; exact .inl (.int b)
        | str b => cases e; exact .inl (.str b)
        | tup h1 r1 =>
          unfold pyS at e
          dsimp only at e
          split at e
          · rename_i c
            cases e
            exact .inl ((Rep.mono g.fh (.tup h1 r1)).dp c)
          · cases e
        | lst h1 r1 =>
          unfold pyS at e
          dsimp only at e
          split at e
          · rename_i c
            cases e
            exact .inl ((Rep.mono g.fh (.lst h1 r1)).dp c)
          · cases e
        | obj h1 h2 h3 h4 r1 =>
          unfold pyS at e
          dsimp only at e
          split at e
          · rename_i c
            simp [D.plain] at c
          · cases e
        | wtp h1 r1 =>
          unfold pyS at e
          dsimp only at e
          split at e
          · rename_i c
            simp [D.plain] at c
          · cases e
        | dev j x =>
          unfold pyS at e
          dsimp only at e
          split at e
          · rename_i c
            simp [D.plain] at c
          · cases e
      · cases h
  · cases h
end FE

namespace FE
open PySem PySem.Spec PyProof.Rows L2

/-! ### statements -/
def PostXS (Z : Zd) (F : Hp) (x : Xc) (env' : Env) : Prop := ∀ cls d σ' H' F', Good Z F' σ' H' env' → Ex F F' → RepX Z F' cls d x → Z.W cls d σ' H'
def PostS (Z : Zd) (F : Hp) (Dn : Ends) : OS → Prop
  | .nx env' => ∀ σ' H' F', Good Z F' σ' H' env' → Ex F F' → Dn.nx σ' H'
  | .ret r env' => ∀ v σ' H' F', Good Z F' σ' H' env' → Ex F F' → RepR Z F' σ' env' H' v r → Dn.rt v H'
  | .brk env' => ∀ σ' H' F', Good Z F' σ' H' env' → Ex F F' → Dn.bk σ' H'
  | .cnt env' => ∀ σ' H' F', Good Z F' σ' H' env' → Ex F F' → Dn.ct σ' H'
  | .exc x env' => PostXS Z F x env'
  | .bad => False
def tS (Z : Zd) (o : Env → OS) : TS := fun Dn σ H => ∃ F env, Good Z F σ H env ∧ PostS Z F Dn (o env)
def OS.seq (o : OS) (f : Env → OS) : OS := match o with
  | .nx env => f env
  | .ret r env => .ret r env
  | .brk env => .brk env
  | .cnt env => .cnt env
  | .exc x env => .exc x env
  | .bad => .bad
section
variable {Z : Zd} {F F' F1 H H' : Hp} {σ : L2.St} {env : Env} {Dn : Ends}
theorem PostXS.up {x : Xc} {env' : Env} (e : Ex F F1) (h : PostXS Z F x env') : PostXS Z F1 x env' := fun cls d σ' H' F' g x => h cls d σ' H' F' g (e.trans x)
theorem PostXS.at {x : Xc} {env' : Env} (h : PostXS Z F x env') : PostX Z F σ x env' := fun cls d H' F' g x r => h cls d σ H' F' g x r
theorem PostS.up {o : OS} (e : Ex F F1) (h : PostS Z F Dn o) : PostS Z F1 Dn o := by
  cases o with
  | nx env' => exact fun σ' H' F' g x => h σ' H' F' g (e.trans x)
  | ret r env' => exact fun v σ' H' F' g x => h v σ' H' F' g (e.trans x)
  | brk env' => exact fun σ' H' F' g x => h σ' H' F' g (e.trans x)
  | cnt env' => exact fun σ' H' F' g x => h σ' H' F' g (e.trans x)
  | exc x env' => exact PostXS.up e h
  | bad => exact h
/-- an expression within a statement -/
theorem seqES {o : Env → OE} {f : R → Env → OS} {k : VK} (g : Good Z F σ H env) (h : PostS Z F Dn ((o env).bindS f))
    (c : ∀ r env1 v H1 F1, Good Z F1 σ H1 env1 → Ex F F1 → RepR Z F1 σ env1 H1 v r → PostS Z F1 Dn (f r env1) → k v H1) : tE Z o σ H k := by
  refine ⟨F, env, g, ?_⟩
  cases e : o env with
  | ok r env1 =>
    rw [e] at h
    exact fun v H1 F1 g1 x1 r1 => c r env1 v H1 F1 g1 x1 r1 (PostS.up x1 h)
  | exc x env1 =>
    rw [e] at h
    exact PostXS.at h
  | bad =>
    rw [e] at h
    exact h
theorem seqTS {o : Env → OT} {f : Bool → Env → OS} {k : Bool → Hp → Prop} (g : Good Z F σ H env) (h : PostS Z F Dn ((o env).bindS f))
    (c : ∀ b env1 H1 F1, Good Z F1 σ H1 env1 → Ex F F1 → PostS Z F1 Dn (f b env1) → k b H1) : tT Z o σ H k := by
  refine ⟨F, env, g, ?_⟩
  cases e : o env with
  | ok r env1 =>
    rw [e] at h
    exact fun H1 F1 g1 x1 => c r env1 H1 F1 g1 x1 (PostS.up x1 h)
  | exc x env1 =>
    rw [e] at h
    exact PostXS.at h
  | bad =>
    rw [e] at h
    exact h
end
def sPass : Env → OS := fun env => .nx env
def sBreak : Env → OS := fun env => .brk env
def sCont : Env → OS := fun env => .cnt env
def sRet (oa : Env → OE) : Env → OS := fun env => (oa env).bindS fun r e1 => .ret r e1
def sRetN : Env → OS := fun env => .ret (.sh .non) env
def sExpr (oa : Env → OE) : Env → OS := fun env => (oa env).bindS fun _ e1 => .nx e1
def sIf (ot : Env → OT) (o1 o2 : Env → OS) : Env → OS := fun env => (ot env).bindS fun b e1 => if b = true then o1 e1 else o2 e1
def sAsg (i : Nat) (oa : Env → OE) : Env → OS := fun env => (oa env).bindS fun r e1 => if noIo e1[i]? = true then .nx (e1.set i r.sv) else .bad
def sSeq (o1 o2 : Env → OS) : Env → OS := fun env => (o1 env).seq o2
/-- a value moved out of its name -/
def oMv (i : Nat) : Env → OE := fun env => match env[i]? with
  | some (.sh d) => .ok (.sh d) env
  | some (.ow ds) => .ok (.ow ds) (env.set i .no)
  | _ => .bad
/-- xs[i] where xs is one's own -/
def ownAt (env : Env) (i : Nat) : Option (List D) := match env[i]? with
  | some (.ow ds) => some ds
  | some (.io ds) => some ds
  | some (.sh (.lst ds)) => some ds
  | _ => none
def here : Option SV → Bool
  | none => false
  | some .no => false
  | _ => true
def oIxV (i : Nat) (ob : Env → OE) : Env → OE := fun env => if here env[i]? = true then (ob env).bind fun r e1 => match ownAt e1 i with
  | some ds => match r.fz with
    | .int k => match atI ds k with
      | some d => .ok (.sh d) e1
      | none => .bad
    | _ => .bad
  | none => match e1[i]? with
    | some (.sh d) => match ixF d r.fz with
      | some z => .ok z e1
      | none => .bad
    | _ => .bad
  else .bad
def oLenV (i : Nat) : Env → OE := fun env => match ownAt env i with
  | some ds => .ok (.sh (.int ds.length)) env
  | none => match env[i]? with
    | some (.sh d) => match lenF [d] with
      | some z => .ok z env
      | none => .bad
    | _ => .bad
def setOwn (env : Env) (i : Nat) (ds : List D) : Option Env := match env[i]? with
  | some (.ow _) => some (env.set i (.ow ds))
  | some (.io _) => some (env.set i (.io ds))
  | _ => none
/-- xs[i] = v, xs one's own -/
def sSetI (i : Nat) (oi ov : Env → OE) : Env → OS := fun env => (ov env).bindS fun rv e1 => if here e1[i]? = true then (oi e1).bindS fun ri e2 => match e2[i]?.bind Own with
  | some ds => match ri.fz with
    | .int k => match ixN ds.length k with
      | some j => match setOwn e2 i (ds.set j rv.fz) with
        | some e3 => .nx e3
        | none => .bad
      | none => .bad
    | _ => .bad
  | none => .bad
  else .bad
/-- xs.append(v) -/
def sApp (i : Nat) (ov : Env → OE) : Env → OS := fun env => if (env[i]?.bind Own).isSome = true then (ov env).bindS fun rv e1 => match e1[i]?.bind Own with
  | some ds => if ds.length < 1000000 then match setOwn e1 i (ds ++ [rv.fz]) with
      | some e3 => .nx e3
      | none => .bad
    else .bad
  | none => .bad
  else .bad

section
variable {Z : Zd} {F F' F1 H H' : Hp} {σ : L2.St} {env env' : Env}
/-- one's own list is written -/
theorem Good.wr (g : Good Z F σ H env) {i : Nat} {s : SV} {ds ds' : List D} {a : Addr} {vs vs' : List V} (hs : env[i]? = some s) (ho : Own s = some ds) (hσ : σ[i]? = some (some (.ref a))) (hH : H a = some (.lst vs)) (r : RepL Z.G F vs' ds') (h : setOwn env i ds' = some env') :
    Good Z F σ (upd H a (.lst vs')) env' := by
  obtain ⟨a2, vs2, q1, q2, q3, q4, q5⟩ := g.ow i s ds hs ho
  rw [hσ] at q1
  cases q1
  obtain ⟨s', rfl, hk⟩ : ∃ s', env' = env.set i s' ∧ ((∃ x, s = .ow x ∧ s' = .ow ds') ∨ ∃ x, s = .io x ∧ s' = .io ds') := by
    unfold setOwn at h
    rw [hs] at h
    cases s with
    | ow x => cases h; exact ⟨_, rfl, .inl ⟨_, rfl, rfl⟩⟩
    | io x => cases h; exact ⟨_, rfl, .inr ⟨_, rfl, rfl⟩⟩
    | no => cases h
    | sh d => cases h
  have hl : i < env.length := (List.getElem?_eq_some_iff.mp hs).1
  have own' : Own s' = some ds' := by
    rcases hk with ⟨x, _, rfl⟩ | ⟨x, _, rfl⟩ <;> rfl
  have owned : ∀ {j t}, env[j]? = some t → (Own t).isSome = true → j ≠ i → σ[j]? ≠ some (some (.ref a)) := fun {j t} e1 e2 ne => g.dis i j a s t (Ne.symm ne) hs e1 (by rw [ho]; rfl) e2 hσ
  refine ⟨g.ff, fun b o e => ?_, fun b o e n => ?_, g.new, by rw [List.length_set]; exact g.len, fun j d e => ?_, fun j t es e eo => ?_, fun j es e => ?_, fun j es e b eb => ?_, fun b hb => ?_, fun j k b t u njk ej ek tj tk hj hk2 => ?_⟩
  · have ne : b ≠ a := fun z => by
      subst z
      rw [q3] at e
      cases e
    rw [upd_ne ne]
    exact g.fh b o e
  · have ne : b ≠ a := fun z => by
      subst z
      rcases q5 with z | z
      · exact n z
      · rw [z] at e
        cases e
    rw [upd_ne ne]
    exact g.keep b o e n
  · rcases get_set e with ⟨rfl, e2⟩ | ⟨ne, e2⟩
    · rcases hk with ⟨x, _, rfl⟩ | ⟨x, _, rfl⟩ <;> cases e2
    · exact g.sh j d e2
  · rcases get_set e with ⟨rfl, e2⟩ | ⟨ne, e2⟩
    · subst e2
      rw [own'] at eo
      cases eo
      exact ⟨a, vs', hσ, upd_same, q3, r, q5⟩
    · obtain ⟨b, ws, h1, h2, h3, h4, h5⟩ := g.ow j t es e2 eo
      have nb : b ≠ a := fun z => by
        subst z
        exact owned e2 (by rw [eo]; rfl) (Ne.symm ne) h1
      exact ⟨b, ws, h1, by rw [upd_ne nb]; exact h2, h3, h4, h5⟩
  · rcases get_set e with ⟨rfl, e2⟩ | ⟨ne, e2⟩
    · rcases hk with ⟨x, rfl, rfl⟩ | ⟨x, rfl, rfl⟩
      · cases e2
      · exact g.io i x hs
    · exact g.io j es e2
  · rcases get_set e with ⟨rfl, e2⟩ | ⟨ne, e2⟩
    · rcases hk with ⟨x, rfl, rfl⟩ | ⟨x, rfl, rfl⟩
      · exact g.nio i x hs b eb
      · cases e2
    · exact g.nio j es e2 b eb
  · obtain ⟨j, es, e1, e2⟩ := g.pa b hb
    by_cases ne : i = j
    · subst ne
      rw [hs] at e1
      cases e1
      rcases hk with ⟨x, z, _⟩ | ⟨x, _, rfl⟩
      · cases z
      · exact ⟨i, ds', List.getElem?_set_self hl, e2⟩
    · exact ⟨j, es, by rw [List.getElem?_set_ne ne]; exact e1, e2⟩
  · have get : ∀ {j t}, (env.set i s')[j]? = some t → (Own t).isSome = true → ∃ t', env[j]? = some t' ∧ (Own t').isSome = true := fun {j t} e1 e2 => by
      rcases get_set e1 with ⟨rfl, e3⟩ | ⟨_, e3⟩
      · exact ⟨s, hs, by rw [ho]; rfl⟩
      · exact ⟨t, e3, e2⟩
    obtain ⟨t1, a1, a2⟩ := get ej tj
    obtain ⟨t2, a3, a4⟩ := get ek tk
    exact g.dis j k b t1 t2 njk a1 a3 a2 a4 hj hk2
end

section
variable {X : Cx} {Z : Zd} {a c : Expr} {oa ob : Env → OE} {ot : Env → OT} {o1 o2 : Env → OS} {st : Stmt} {rest b1 b2 : List Stmt} {pos : Pos}
theorem n_pass : PS X (.Pass pos) (tS Z sPass) := PS.imp ps_pass fun Dn σ H ⟨F, env, g, h⟩ => h σ H F g (Ex.refl F)
theorem n_break : PS X (.Break pos) (tS Z sBreak) := PS.imp ps_break fun Dn σ H ⟨F, env, g, h⟩ => h σ H F g (Ex.refl F)
theorem n_cont : PS X (.Continue pos) (tS Z sCont) := PS.imp ps_continue fun Dn σ H ⟨F, env, g, h⟩ => h σ H F g (Ex.refl F)
theorem n_ret (ha : PE X a (tE Z oa)) : PS X (.Return (some a) pos) (tS Z (sRet oa)) := by
  refine PS.imp (ps_ret ha) fun Dn σ H ⟨F, env, g, h⟩ => ?_
  exact seqES g h fun r env1 v H1 F1 g1 x1 r1 h1 => h1 v σ H1 F1 g1 (Ex.refl F1) r1
theorem n_retN : PS X (.Return none pos) (tS Z sRetN) := PS.imp ps_retN fun Dn σ H ⟨F, env, g, h⟩ => h .non σ H F g (Ex.refl F) .non
theorem n_expr (ha : PE X a (tE Z oa)) (hs : swapsWith a none pos.line X.env = pure false := by rfl) : PS X (.Expr a pos) (tS Z (sExpr oa)) := by
  refine PS.imp (ps_expr ha hs) fun Dn σ H ⟨F, env, g, h⟩ => ?_
  exact seqES g h fun r env1 v H1 F1 g1 x1 r1 h1 => h1 σ H1 F1 g1 (Ex.refl F1)
theorem n_ifS (hc : PT X c (tT Z ot)) (h1 : PSs X b1 (tS Z o1)) (h2 : PSs X b2 (tS Z o2)) : PS X (.If c b1 b2 pos) (tS Z (sIf ot o1 o2)) := by
  refine PS.imp (ps_if hc h1 h2) fun Dn σ H ⟨F, env, g, h⟩ => ?_
  refine seqTS g h fun k env1 H1 F1 g1 x1 h1 => ?_
  cases k with
  | true => exact ⟨F1, env1, g1, h1⟩
  | false => exact ⟨F1, env1, g1, h1⟩
theorem n_asg (i : Nat) {x : PySem.Str} {p : Pos} (hN : X.N.Nodup) (ha : PE X a (tE Z oa)) (hi : X.N[i]? = some x := by rfl) (hx : Loc X.env.scope x := by first | exact .inl rfl | exact .inr rfl) (hs : swapsWith a (some (.Name x p)) pos.line X.env = pure false := by rfl)
    (hf : X.fn x = true ∨ X.env.scope.names.lookup x = some .local := by first | exact .inl rfl | exact .inr rfl) : PS X (.Assign [.Name x p] a pos) (tS Z (sAsg i oa)) := by
  refine PS.imp (ps_set hN hi hx ha hs hf) fun Dn σ H ⟨F, env, g, h⟩ => ?_
  refine seqES g h fun r env1 v H1 F1 g1 x1 r1 h1 => ?_
  split at h1
  · rename_i c
    exact h1 _ H1 F1 (g1.asg r1 c) (Ex.refl F1)
  · exact h1.elim
theorem n_end : PSs X [] (tS Z sPass) := PSs.imp pss_nil fun Dn σ H ⟨F, env, g, h⟩ => h σ H F g (Ex.refl F)
theorem n_seq (h1 : PS X st (tS Z o1)) (h2 : PSs X rest (tS Z o2)) : PSs X (st :: rest) (tS Z (sSeq o1 o2)) := by
  refine PSs.imp (pss_cons h1 h2) fun Dn σ H ⟨F, env, g, h⟩ => ⟨F, env, g, ?_⟩
  unfold sSeq at h
  cases e : o1 env with
  | nx env1 =>
    rw [e] at h
    exact fun σ' H' F' g' x' => ⟨F', env1, g', PostS.up x' h⟩
  | ret r env1 => rw [e] at h; exact h
  | brk env1 => rw [e] at h; exact h
  | cnt env1 => rw [e] at h; exact h
  | exc x env1 => rw [e] at h; exact h
  | bad => rw [e] at h; exact h
theorem n_last (h1 : PS X st (tS Z o1)) : PSs X [st] (tS Z o1) := pss_one h1
theorem n_mv (i : Nat) {x : PySem.Str} {pos : Pos} (hN : X.N[i]? = some x := by rfl) (hv : Vis X.env.scope x := by first | exact Or.inl rfl | exact Or.inr (Or.inl rfl) | exact Or.inr (Or.inr rfl)) (hd : (x == ("__debug__" : PySem.Str)) = false := by decide)
    (hcd : (x == ("__classdict__" : PySem.Str)) = false := by decide) : PE X (.Name x pos) (tE Z (oMv i)) := by
  refine PE.imp (pe_var hN hv hd hcd) fun σ H Q ⟨F, env, g, h⟩ => ?_
  unfold oMv at h
  cases e : env[i]? with
  | none => rw [e] at h; exact h.elim
  | some s =>
    rw [e] at h
    cases s with
    | sh d =>
      obtain ⟨v, h1, h2⟩ := g.sh i d e
      exact ⟨v, h1, h v H F g (Ex.refl F) h2⟩
    | ow ds =>
      obtain ⟨a, vs, h1, h2, h3, h4, h5⟩ := g.ow i _ ds e rfl
      have n0 : noIo env[i]? = true := by rw [e]; rfl
      refine ⟨.ref a, h1, h (.ref a) H F (g.less n0 (.inl rfl)) (Ex.refl F) ⟨a, vs, rfl, h2, h3, h4, g.nio i ds e a h1, fun j s e1 e2 e3 => ?_⟩⟩
      rcases get_set e1 with ⟨rfl, q⟩ | ⟨ne, q⟩
      · subst q
        cases e2
      · exact g.dis i j a _ s ne e q rfl e2 h1 e3
    | no => exact h.elim
    | io ds => exact h.elim
theorem own_at {F H : Hp} {σ : L2.St} {env : Env} (g : Good Z F σ H env) {i : Nat} {ds : List D} (h : ownAt env i = some ds) : ∃ a vs, σ[i]? = some (some (.ref a)) ∧ Lr Z.G.K H a vs ∧ RepL Z.G F vs ds := by
  unfold ownAt at h
  cases e : env[i]? with
  | none => rw [e] at h; cases h
  | some s =>
    rw [e] at h
    cases s with
    | no => cases h
    | ow es =>
      cases h
      obtain ⟨a, vs, h1, h2, h3, h4, h5⟩ := g.ow i _ _ e rfl
      exact ⟨a, vs, h1, .inl (.inl h2), h4⟩
    | io es =>
      cases h
      obtain ⟨a, vs, h1, h2, h3, h4, h5⟩ := g.ow i _ _ e rfl
      exact ⟨a, vs, h1, .inl (.inl h2), h4⟩
    | sh d =>
      cases d <;> try cases h
      obtain ⟨v, h1, h2⟩ := g.sh i _ e
      cases h2 with
      | lst h3 h4 => exact ⟨_, _, h1, g.fh.lr h3, h4⟩
theorem Good.here {F H : Hp} {σ : L2.St} {env : Env} (g : Good Z F σ H env) {i : Nat} (h : FE.here env[i]? = true) : ∃ v, σ[i]? = some (some v) := by
  cases e : env[i]? with
  | none => rw [e] at h; cases h
  | some s =>
    rw [e] at h
    cases s with
    | no => cases h
    | sh d =>
      obtain ⟨v, h1, _⟩ := g.sh i d e
      exact ⟨v, h1⟩
    | ow ds =>
      obtain ⟨a, vs, h1, _⟩ := g.ow i _ _ e rfl
      exact ⟨_, h1⟩
    | io ds =>
      obtain ⟨a, vs, h1, _⟩ := g.ow i _ _ e rfl
      exact ⟨_, h1⟩
/-- xs[i], xs a name whose list may be one's own: the index first (it stores nothing at xs) -/
theorem n_ixV (i : Nat) {x : PySem.Str} {p : Pos} {b : Expr} (hb : PE X b (tE Z ob)) (hK : Z.G.K = X.K) (hN : X.N[i]? = some x := by rfl) (hv : Vis X.env.scope x := by first | exact Or.inl rfl | exact Or.inr (Or.inl rfl) | exact Or.inr (Or.inr rfl)) (hd : (x == ("__debug__" : PySem.Str)) = false := by decide)
    (hcd : (x == ("__classdict__" : PySem.Str)) = false := by decide) (hp : PlainIx b := by exact fun _ _ => rfl) : PE X (.Subscript (.Name x p) b pos) (tE Z (oIxV i ob)) := by
  refine PE.imp (pe_ix ix_seq (pe_var hN hv hd hcd) hb hp) fun σ H Q ⟨F, env, g, h⟩ => ?_
  unfold oIxV at h
  split at h
  case isFalse => exact h.elim
  rename_i hh
  have vi : ∃ v, σ[i]? = some (some v) := g.here hh
  have key : ∀ v, σ[i]? = some (some v) → tE Z ob σ H fun y H2 => rIx X.K v y H2 Q := by
    intro v hv
    refine seqE g h fun r env1 w H1 F1 g1 x1 rw1 h1 => ?_
    generalize r.fz = d at h1 rw1
    cases ho : ownAt env1 i with
    | some ds =>
      rw [ho] at h1
      cases d <;> try exact h1.elim
      rename_i k
      dsimp only at h1
      cases ha : L2.atI ds k with
      | none => rw [ha] at h1; exact h1.elim
      | some d =>
        rw [ha] at h1
        obtain ⟨a, vs, e1, e2, e3⟩ := own_at g1 ho
        rw [hv] at e1
        cases e1
        obtain ⟨u, e4, e5⟩ := e3.atI ha
        cases rw1
        rw [← hK]
        exact .inl ⟨_, _, _, _, rfl, rfl, e2.sq, e4, h1 u H1 F1 g1 (Ex.refl F1) e5⟩
    | none =>
      rw [ho] at h1
      dsimp only at h1
      cases e : env1[i]? with
      | none => rw [e] at h1; exact h1.elim
      | some s =>
        rw [e] at h1
        cases s with
        | sh d0 =>
          dsimp only at h1
          cases hz : ixF d0 d with
          | none => rw [hz] at h1; exact h1.elim
          | some z =>
            rw [hz] at h1
            obtain ⟨v2, e1, e2⟩ := g1.sh i d0 e
            rw [hv] at e1
            cases e1
            have := s_ix Z F1 σ H1 env1 v w d0 d z Q rfl g1 e2 rw1 hz h1
            rw [hK] at this
            exact this
        | no => exact h1.elim
        | ow ds => exact h1.elim
        | io ds => exact h1.elim
  obtain ⟨v, hv⟩ := vi
  exact ⟨v, hv, key v hv⟩
end
end FE

namespace FE
open PySem PySem.Spec PyProof.Rows L2

section
variable {X : Cx} {Z : Zd} {a b : Expr} {oa ob : Env → OE} {pos : Pos}
theorem own_get {env : Env} {i : Nat} {ds : List D} (h : env[i]?.bind Own = some ds) : ∃ s, env[i]? = some s ∧ Own s = some ds := by
  cases e : env[i]? with
  | none => rw [e] at h; cases h
  | some s => rw [e] at h; exact ⟨s, rfl, h⟩
/-- xs[i] = v -/
theorem n_setI (i : Nat) {x : PySem.Str} {p tp : Pos} (ha : PE X a (tE Z oa)) (hb : PE X b (tE Z ob)) (hN : X.N[i]? = some x := by rfl) (hv : Vis X.env.scope x := by first | exact Or.inl rfl | exact Or.inr (Or.inl rfl) | exact Or.inr (Or.inr rfl)) (hd : (x == ("__debug__" : PySem.Str)) = false := by decide)
    (hcd : (x == ("__classdict__" : PySem.Str)) = false := by decide)
    (hs : swapsWithSole [.Subscript (.Name x p) b tp] a pos.line X.env = pure false := by rfl) (hw : swappedStores [.Subscript (.Name x p) b tp] a X.env = pure none := by rfl)
    (h1 : (assignEach [.Subscript (.Name x p) b tp] X.env).map (·.2) = [assign (.Subscript (.Name x p) b tp) X.env] := by rfl)
    (hg : ∀ v, assign (.Subscript (.Name x p) b tp) X.env v = (do
      let ov ← holding [v] (eval (.Name x p) X.env)
      let iv ← holding [v, ov] (eval b X.env)
      standAt tp
      holding [v, ov, iv] (setItem ov iv v)
      release [v, ov, iv] []) := by intro _; rfl) : PS X (.Assign [.Subscript (.Name x p) b tp] a pos) (tS Z (sSetI i ob oa)) := by
  refine PS.imp (ps_asg ha (pg_sub (pe_var hN hv hd hcd) hb set_list hg) hs hw h1) fun Dn σ H ⟨F, env, g, h⟩ => ?_
  refine seqES g h fun rv env1 v H1 F1 g1 x1 r1 h1 => ?_
  obtain ⟨F2, g2, x2, r2⟩ := g1.give r1
  replace h1 := PostS.up x2 h1
  split at h1
  case isFalse => exact h1.elim
  rename_i hh
  obtain ⟨u, hu⟩ := g2.here hh
  refine ⟨u, hu, ?_⟩
  refine seqES g2 h1 fun ri env3 w H3 F3 g3 x3 r3 h3 => ?_
  obtain ⟨F4, g4, x4, r4⟩ := g3.give r3
  replace h3 := PostS.up x4 h3
  cases ho : env3[i]?.bind Own with
  | none => rw [ho] at h3; exact h3.elim
  | some ds =>
    rw [ho] at h3
    generalize ri.fz = d at h3 r4
    cases d <;> try exact h3.elim
    rename_i k
    dsimp only at h3
    cases hj : ixN ds.length k with
    | none => rw [hj] at h3; exact h3.elim
    | some j =>
      rw [hj] at h3
      dsimp only at h3
      cases he : setOwn env3 i (ds.set j rv.fz) with
      | none => rw [he] at h3; exact h3.elim
      | some env5 =>
        rw [he] at h3
        obtain ⟨s, e1, e2⟩ := own_get ho
        obtain ⟨a, vs, q1, q2, q3, q4, q5⟩ := g4.ow i s ds e1 e2
        rw [hu] at q1
        cases q1
        cases r4
        refine ⟨a, vs, k, j, rfl, rfl, q2, by rw [q4.length]; exact hj, ?_⟩
        exact h3 σ _ F4 (g4.wr e1 e2 hu q2 (q4.set (r2.mono (x3.trans x4)) j) he) (Ex.refl F4)
/-- xs.append(v) -/
theorem n_app (i : Nat) {x : PySem.Str} {p apos cpos : Pos} (ha : PE X a (tE Z oa)) (hN : X.N[i]? = some x := by rfl) (hv : Vis X.env.scope x := by first | exact Or.inl rfl | exact Or.inr (Or.inl rfl) | exact Or.inr (Or.inr rfl)) (hd : (x == ("__debug__" : PySem.Str)) = false := by decide)
    (hcd : (x == ("__classdict__" : PySem.Str)) = false := by decide) (hline : (apos.endLine == cpos.line) = true := by rfl) (hs : starEach [a] X.env = (false, eval a X.env) :: starEach [] X.env := by rfl)
    (hfew : ((backTo cpos (starEach [a] X.env)).all (fun x => !x.1) && (backToKw cpos (keywordEach [] X.env)).all (fun x => x.1.isSome)
      && decide ([a].length + ([] : List Keyword).length + (if ([] : List Keyword).isEmpty then 0 else 1) < 30)) = true := by rfl) :
    PS X (.Expr (.Call (.Attribute (.Name x p) "append" apos) [a] [] cpos) pos) (tS Z (sApp i oa)) := by
  refine PS.imp (ps_expr (pe_bm PySem.F.plainAttrs_list PySem.F.slot_list_append PySem.F.type_list_append mt_append (pe_var hN hv hd hcd) (pa_cons ha pa_nil hs) (hfew := hfew) (hline := hline) (hs := hs))) fun Dn σ H ⟨F, env, g, h⟩ => ?_
  unfold sApp at h
  split at h
  case isFalse => exact h.elim
  rename_i hh
  obtain ⟨ds0, hs0⟩ := Option.isSome_iff_exists.mp hh
  obtain ⟨s0, k1, k2⟩ := own_get hs0
  obtain ⟨a0, vs0, hu, k3, _⟩ := g.ow i s0 ds0 k1 k2
  refine ⟨.ref a0, hu, .inl ⟨rfl, _, .inl (.inl k3)⟩, ?_⟩
  refine seqES g h fun rv env1 v H1 F1 g1 x1 r1 h1 => ?_
  obtain ⟨F2, g2, x2, r2⟩ := g1.give r1
  replace h1 := PostS.up x2 h1
  cases ho : env1[i]?.bind Own with
  | none => rw [ho] at h1; exact h1.elim
  | some ds =>
    rw [ho] at h1
    dsimp only at h1
    split at h1
    case isFalse => exact h1.elim
    rename_i hl
    cases he : setOwn env1 i (ds ++ [rv.fz]) with
    | none => rw [he] at h1; exact h1.elim
    | some env5 =>
      rw [he] at h1
      obtain ⟨s, e1, e2⟩ := own_get ho
      obtain ⟨a, vs, q1, q2, q3, q4, q5⟩ := g2.ow i s ds e1 e2
      rw [hu] at q1
      cases q1
      refine ⟨a0, vs, v, rfl, rfl, q2, Nat.lt_of_lt_of_le (by rw [q4.length]; exact hl) big_line, ?_⟩
      exact h1 σ _ F2 (g2.wr e1 e2 hu q2 (q4.append (.single r2)) he) (Ex.refl F2)

/-! ### targets -/
def TgOk (G : Gd) (ws : List Nat) (g : TG) (f : D → Env → Option Env) : Prop := ∀ (Z : Zd) (F : Hp) (σ : L2.St) (H : Hp) (env env' : Env) (x : V) (d : D) (Q : L2.St → Hp → Prop), Z.G = G → Good Z F σ H env → Rep Z.G F x d → f d env = some env' → (∀ σ', Good Z F σ' H env' → (∀ j, j ∉ ws → σ'[j]? = σ[j]?) → σ'.length = σ.length → Q σ' H) → g x σ H Q
def gVar (i : Nat) : D → Env → Option Env := fun d env => if noIo env[i]? = true then some (env.set i (.sh d)) else none
theorem tg_var {G : Gd} {ws : List Nat} (i : Nat) (hi : i ∈ ws := by simp) : TgOk G ws (gName i) (gVar i) := by
  intro Z F σ H env env' x d Q hG g r h q
  unfold gVar at h
  split at h
  · rename_i c
    cases h
    exact q _ (g.asg (r := .sh d) r c) (fun j hj => List.getElem?_set_ne (show i ≠ j from by intro e; subst e; exact hj hi)) List.length_set
  · cases h
def gNilF : List D → Env → Option Env
  | [], env => some env
  | _ :: _, _ => none
def gConsF (f : D → Env → Option Env) (fs : List D → Env → Option Env) : List D → Env → Option Env
  | [], _ => none
  | d :: ds, env => (f d env).bind fun env1 => fs ds env1
def TgsOk (G : Gd) (ws : List Nat) (g : TGs) (f : List D → Env → Option Env) : Prop := ∀ (Z : Zd) (F : Hp) (σ : L2.St) (H : Hp) (env env' : Env) (xs : List V) (ds : List D) (Q : L2.St → Hp → Prop), Z.G = G → Good Z F σ H env → RepL Z.G F xs ds → f ds env = some env' → (∀ σ', Good Z F σ' H env' → (∀ j, j ∉ ws → σ'[j]? = σ[j]?) → σ'.length = σ.length → Q σ' H) → g xs σ H Q
theorem tgs_nil {G : Gd} {ws : List Nat} : TgsOk G ws gNil gNilF := by
  intro Z F σ H env env' xs ds Q hG g r h q
  cases ds with
  | nil =>
    cases h
    cases r
    exact ⟨rfl, q σ g (fun _ _ => rfl) rfl⟩
  | cons d ds => cases h
theorem tgs_cons {G : Gd} {ws : List Nat} {g1 : TG} {f1 : D → Env → Option Env} {g2 : TGs} {f2 : List D → Env → Option Env} (h1 : TgOk G ws g1 f1) (h2 : TgsOk G ws g2 f2) : TgsOk G ws (gCons g1 g2) (gConsF f1 f2) := by
  intro Z F σ H env env' xs ds Q hG g r h q
  cases ds with
  | nil => cases h
  | cons d ds =>
    cases r with
    | cons r1 r2 =>
      have h' : (f1 d env).bind (fun env1 => f2 ds env1) = some env' := h
      cases e : f1 d env with
      | none => rw [e] at h'; cases h'
      | some env1 =>
        rw [e] at h'
        exact ⟨_, _, rfl, h1 Z F σ H env env1 _ d _ hG g r1 e fun σ1 g1 k1 l1 => h2 Z F σ1 H env1 env' _ ds Q hG g1 r2 h' fun σ2 g2 k2 l2 => q σ2 g2 (fun j hj => (k2 j hj).trans (k1 j hj)) (l2.trans l1)⟩
def gTupF (n : Nat) (f : List D → Env → Option Env) : D → Env → Option Env := fun d env => match d with
  | .tup ds => if ds.length = n then f ds env else none
  | .wtp ds => if ds.length = n then f ds env else none
  | _ => none
theorem tg_tup {G : Gd} {ws : List Nat} {g : TGs} {f : List D → Env → Option Env} {n : Nat} (h : TgsOk G ws g f) : TgOk G ws (gTup G.K n g) (gTupF n f) := by
  intro Z F σ H env env' x d Q hG gd r e q
  subst hG
  unfold gTupF at e
  cases r <;> try cases e
  · rename_i h1 r1
    dsimp only at e
    split at e
    · rename_i c
      exact ⟨_, _, rfl, gd.fh.t h1, by rw [r1.length]; exact c, h Z F σ H env env' _ _ Q rfl gd r1 e q⟩
    · cases e
  · rename_i h1 r1
    dsimp only at e
    split at e
    · rename_i c
      exact ⟨_, _, rfl, gd.fh.t h1.t, by rw [r1.length]; exact c, h Z F σ H env env' _ _ Q rfl gd r1 e q⟩
    · cases e
end
end FE

namespace FE
open PySem PySem.Spec PyProof.Rows L2

/-! ### what a for walks -/
inductive OI where
  | ok (ds : List D) (env : Env) | exc (x : Xc) (env : Env) | bad
def OE.bindI (o : OE) (f : R → Env → OI) : OI := match o with
  | .ok r env => f r env
  | .exc x env => .exc x env
  | .bad => .bad
def OA.bindI (o : OA) (f : List D → Env → OI) : OI := match o with
  | .ok r env => f r env
  | .exc x env => .exc x env
  | .bad => .bad
def OI.bindE (o : OI) (f : List D → Env → OE) : OE := match o with
  | .ok r env => f r env
  | .exc x env => .exc x env
  | .bad => .bad
def OI.bindS (o : OI) (f : List D → Env → OS) : OS := match o with
  | .ok r env => f r env
  | .exc x env => .exc x env
  | .bad => .bad
structure ItRep (G : Gd) (J : It) (F : Hp) (ds : List D) : Prop where
  go : ∀ k F1 H1, Ex F F1 → Ex F1 H1 → k < ds.length → J.go k H1
  stop : ∀ k F1 H1, Ex F F1 → Ex F1 H1 → ds.length ≤ k → J.stop k H1
  yld : ∀ k d F1 H1 x H2, Ex F F1 → Ex F1 H1 → ds[k]? = some d → J.yld k H1 x H2 → (H2 = H1 ∧ Rep G F1 x d) ∨ ∃ T o, H1 T = none ∧ H2 = upd H1 T o ∧ Rep G (upd F1 T o) x d
def PostI (Z : Zd) (F : Hp) (σ : L2.St) (Q : It → Hp → Prop) : OI → Prop
  | .ok ds env' => ∀ J H' F', Good Z F' σ H' env' → Ex F F' → ItRep Z.G J F' ds → Q J H'
  | .exc x env' => PostX Z F σ x env'
  | .bad => False
def tI (Z : Zd) (o : Env → OI) : TI := fun σ H Q => ∃ F env, Good Z F σ H env ∧ PostI Z F σ Q (o env)
section
variable {Z : Zd} {F F' F1 H H' : Hp} {σ : L2.St} {env : Env} {Q : It → Hp → Prop} {QE : VK} {Dn : Ends}
theorem PostI.up {o : OI} (e : Ex F F1) (h : PostI Z F σ Q o) : PostI Z F1 σ Q o := by
  cases o with
  | ok r env' => exact fun v H' F' g x => h v H' F' g (e.trans x)
  | exc x env' => exact PostX.up e h
  | bad => exact h
theorem seqEI {o : Env → OE} {f : R → Env → OI} {k : VK} (g : Good Z F σ H env) (h : PostI Z F σ Q ((o env).bindI f))
    (c : ∀ r env1 v H1 F1, Good Z F1 σ H1 env1 → Ex F F1 → Rep Z.G F1 v r.fz → PostI Z F1 σ Q (f r env1) → k v H1) : tE Z o σ H k := by
  refine ⟨F, env, g, ?_⟩
  cases e : o env with
  | ok r env1 =>
    rw [e] at h
    intro v H1 F1 g1 x1 r1
    obtain ⟨F2, g2, x2, r2⟩ := g1.give r1
    exact c r env1 v H1 F2 g2 (x1.trans x2) r2 (PostI.up (x1.trans x2) h)
  | exc x env1 => rw [e] at h; exact h
  | bad => rw [e] at h; exact h
theorem seqAI {o : Env → OA} {f : List D → Env → OI} {k : List V → Hp → Prop} (g : Good Z F σ H env) (h : PostI Z F σ Q ((o env).bindI f))
    (c : ∀ ds env1 vs H1 F1, Good Z F1 σ H1 env1 → Ex F F1 → RepL Z.G F1 vs ds → PostI Z F1 σ Q (f ds env1) → k vs H1) : tA Z o σ H k := by
  refine ⟨F, env, g, ?_⟩
  cases e : o env with
  | ok r env1 =>
    rw [e] at h
    exact fun vs H1 F1 g1 x1 r1 => c r env1 vs H1 F1 g1 x1 r1 (PostI.up x1 h)
  | exc x env1 => rw [e] at h; exact h
  | bad => rw [e] at h; exact h
theorem seqIE {o : Env → OI} {f : List D → Env → OE} {k : It → Hp → Prop} (g : Good Z F σ H env) (h : PostE Z F σ QE ((o env).bindE f))
    (c : ∀ ds env1 J H1 F1, Good Z F1 σ H1 env1 → Ex F F1 → ItRep Z.G J F1 ds → PostE Z F1 σ QE (f ds env1) → k J H1) : tI Z o σ H k := by
  refine ⟨F, env, g, ?_⟩
  cases e : o env with
  | ok r env1 =>
    rw [e] at h
    exact fun vs H1 F1 g1 x1 r1 => c r env1 vs H1 F1 g1 x1 r1 (PostE.up x1 h)
  | exc x env1 => rw [e] at h; exact h
  | bad => rw [e] at h; exact h
theorem seqIS {o : Env → OI} {f : List D → Env → OS} {k : It → Hp → Prop} (g : Good Z F σ H env) (h : PostS Z F Dn ((o env).bindS f))
    (c : ∀ ds env1 J H1 F1, Good Z F1 σ H1 env1 → Ex F F1 → ItRep Z.G J F1 ds → PostS Z F1 Dn (f ds env1) → k J H1) : tI Z o σ H k := by
  refine ⟨F, env, g, ?_⟩
  cases e : o env with
  | ok r env1 =>
    rw [e] at h
    exact fun vs H1 F1 g1 x1 r1 => c r env1 vs H1 F1 g1 x1 r1 (PostS.up x1 h)
  | exc x env1 => rw [e] at h; exact PostXS.at h
  | bad => rw [e] at h; exact h
end
/-- the items of a list, a tuple, a text's signs -/
def itemsD : D → Option (List D)
  | .lst ds => some ds
  | .tup ds => some ds
  | .str x => some (x.cps.toList.map fun c => .str ⟨#[c]⟩)
  | _ => none
def iVal (oa : Env → OE) : Env → OI := fun env => (oa env).bindI fun r e1 => match itemsD r.fz with
  | some ds => .ok ds e1
  | none => .bad
def rngD (lo : Int) (n : Nat) : List D := (List.range n).map fun k => .int (lo + (k : Nat))
def iRg1 (os : Env → OA) : Env → OI := fun env => (os env).bindI fun ds e1 => match ds with
  | [.int j] => if -(2 ^ 62) ≤ j ∧ j < 2 ^ 62 then .ok (rngD 0 j.toNat) e1 else .bad
  | _ => .bad
def iRg2 (os : Env → OA) : Env → OI := fun env => (os env).bindI fun ds e1 => match ds with
  | [.int i, .int j] => if -(2 ^ 62) ≤ i ∧ i < 2 ^ 62 ∧ -(2 ^ 62) ≤ j ∧ j < 2 ^ 62 then .ok (rngD i (j - i).toNat) e1 else .bad
  | _ => .bad
def enumD (k : Nat) : List D → List D
  | [] => []
  | d :: ds => .wtp [.int (k : Nat), d] :: enumD (k + 1) ds
def iEnm (os : Env → OA) : Env → OI := fun env => (os env).bindI fun ds e1 => match ds with
  | [.lst ds] => .ok (enumD 0 ds) e1
  | _ => .bad
def zipD : List D → List D → List D
  | d :: ds, e :: es => .wtp [d, e] :: zipD ds es
  | _, _ => []
theorem rng_get {lo : Int} {n k : Nat} {d : D} (h : (rngD lo n)[k]? = some d) : d = .int (lo + (k : Nat)) := by
  unfold rngD at h
  rw [List.getElem?_map] at h
  cases e : (List.range n)[k]? with
  | none => rw [e] at h; cases h
  | some j =>
    rw [e] at h
    cases h
    obtain ⟨_, e2⟩ := List.getElem?_eq_some_iff.mp e
    rw [List.getElem_range] at e2
    rw [e2]
theorem rng_len {lo : Int} {n : Nat} : (rngD lo n).length = n := by
  unfold rngD
  rw [List.length_map, List.length_range]
theorem enum_len : ∀ (ds : List D) (k : Nat), (enumD k ds).length = ds.length
  | [], _ => rfl
  | _ :: ds, k => congrArg Nat.succ (enum_len ds (k + 1))
theorem enum_get : ∀ (ds : List D) (k j : Nat) (d : D), (enumD k ds)[j]? = some d → ∃ e, ds[j]? = some e ∧ d = .wtp [.int ((k + j : Nat) : Int), e]
  | [], _, _, _, h => by simp [enumD] at h
  | d :: ds, k, 0, x, h => by
    simp [enumD] at h
    exact ⟨d, rfl, by rw [← h]; simp⟩
  | d :: ds, k, j + 1, x, h => by
    obtain ⟨e, h1, h2⟩ := enum_get ds (k + 1) j x (by simpa [enumD] using h)
    exact ⟨e, by simpa using h1, by rw [h2]; simp only [D.wtp.injEq, List.cons.injEq, D.int.injEq]; refine ⟨by omega, trivial⟩⟩
section
variable {G : Gd} {F : Hp}
theorem it_list {a : Addr} {vs : List V} {ds : List D} (h : Lr G.K F a vs) (r : RepL G F vs ds) : ItRep G (Itl G.K a) F ds where
  go := fun k F1 H1 e1 e2 hk => by
    obtain ⟨v, hv, _⟩ := r.get (List.getElem?_eq_getElem hk)
    exact ⟨vs, v, ((e1.trans e2).lr h).sq, hv⟩
  stop := fun k F1 H1 e1 e2 hk => ⟨vs, ((e1.trans e2).lr h).sq, by rw [r.length]; exact hk⟩
  yld := fun k d F1 H1 x H2 e1 e2 hd hy => by
    obtain ⟨rfl, f⟩ := hy
    obtain ⟨v, hv, rv⟩ := r.get hd
    have := f vs ((e1.trans e2).lr h).sq
    rw [hv] at this
    cases this
    exact .inl ⟨rfl, rv.mono e1⟩
theorem it_tup {a : Addr} {vs : List V} {ds : List D} (h : SqT G.K F a vs) (r : RepL G F vs ds) : ItRep G (Itt G.K a) F ds where
  go := fun k F1 H1 e1 e2 hk => by
    obtain ⟨v, hv, _⟩ := r.get (List.getElem?_eq_getElem hk)
    exact ⟨vs, v, (e1.trans e2).t h, hv⟩
  stop := fun k F1 H1 e1 e2 hk => ⟨vs, (e1.trans e2).t h, by rw [r.length]; exact hk⟩
  yld := fun k d F1 H1 x H2 e1 e2 hd hy => by
    obtain ⟨rfl, f⟩ := hy
    obtain ⟨v, hv, rv⟩ := r.get hd
    have := f vs ((e1.trans e2).t h)
    rw [hv] at this
    cases this
    exact .inl ⟨rfl, rv.mono e1⟩
theorem it_str {x : PySem.Str} : ItRep G (Its x) F (x.cps.toList.map fun c => .str ⟨#[c]⟩) where
  go := fun k F1 H1 e1 e2 hk => by
    rw [List.length_map, Array.length_toList] at hk
    exact hk
  stop := fun k F1 H1 e1 e2 hk => by
    rw [List.length_map, Array.length_toList] at hk
    exact hk
  yld := fun k d F1 H1 v H2 e1 e2 hd hy => by
    obtain ⟨rfl, c, hc, rfl⟩ := hy
    rw [List.getElem?_map, Array.getElem?_toList, hc] at hd
    cases hd
    exact .inl ⟨rfl, .str _⟩
theorem it_rng {lo : Int} {n : Nat} : ItRep G (Itr lo n) F (rngD lo n) where
  go := fun k F1 H1 e1 e2 hk => by rw [rng_len] at hk; exact hk
  stop := fun k F1 H1 e1 e2 hk => by rw [rng_len] at hk; exact hk
  yld := fun k d F1 H1 x H2 e1 e2 hd hy => by
    obtain ⟨rfl, rfl⟩ := hy
    rw [rng_get hd]
    exact .inl ⟨rfl, .int _⟩
theorem it_enum {a : Addr} {vs : List V} {ds : List D} (h : Lr G.K F a vs) (r : RepL G F vs ds) : ItRep G (Ite G.K a) F (enumD 0 ds) where
  go := fun k F1 H1 e1 e2 hk => by
    rw [enum_len] at hk
    obtain ⟨v, hv, _⟩ := r.get (List.getElem?_eq_getElem hk)
    exact ⟨vs, v, ((e1.trans e2).lr h).sq, hv⟩
  stop := fun k F1 H1 e1 e2 hk => ⟨vs, ((e1.trans e2).lr h).sq, by rw [r.length]; rw [enum_len] at hk; exact hk⟩
  yld := fun k d F1 H1 x H2 e1 e2 hd hy => by
    obtain ⟨T, y, rfl, hT, rfl, f⟩ := hy
    obtain ⟨e, he, rfl⟩ := enum_get ds 0 k d hd
    obtain ⟨v, hv, rv⟩ := r.get he
    have := f vs ((e1.trans e2).lr h).sq
    rw [hv] at this
    cases this
    have fT : F1 T = none := by
      cases q : F1 T with
      | none => rfl
      | some o =>
        rw [e2 T o q] at hT
        cases hT
    refine .inr ⟨T, _, hT, rfl, .wtp (.inl (.inl upd_same)) (.cons ?_ (.cons ((rv.mono e1).mono (Ex.new fT)) .nil))⟩
    rw [Nat.zero_add]
    exact .int _
end
section
variable {X : Cx} {Z : Zd} {a b tg : Expr} {oa ob : Env → OE} {os : Env → OA} {p pos tpos : Pos} {elts : List Expr} {kk : Nat}
theorem n_iter (ha : PE X a (tE Z oa)) (hK : Z.G.K = X.K) : PI X tg a (tI Z (iVal oa)) := by
  refine PI.imp (PI.or (pi_list ha) (PI.or (pi_tup ha) (pi_str ha))) fun σ H Q ⟨F, env, g, h⟩ => ?_
  rw [← hK]
  have core : ∀ k : VK, (∀ r env1 v H1 F1, Good Z F1 σ H1 env1 → Ex F F1 → Rep Z.G F1 v r.fz → PostI Z F1 σ Q (match itemsD r.fz with | some ds => .ok ds env1 | none => .bad) → (oa env = .ok r env1) → k v H1) → tE Z oa σ H k := by
    intro k c
    refine ⟨F, env, g, ?_⟩
    unfold iVal at h
    cases e : oa env with
    | ok r env1 =>
      rw [e] at h
      intro v H1 F1 g1 x1 r1
      obtain ⟨F2, g2, x2, r2⟩ := g1.give r1
      exact c r env1 v H1 F2 g2 (x1.trans x2) r2 (PostI.up (x1.trans x2) h) e
    | exc x env1 => rw [e] at h; exact h
    | bad => rw [e] at h; exact h
  cases e : oa env with
  | bad =>
    unfold iVal at h
    rw [e] at h
    exact h.elim
  | exc x env1 => exact .inl (core _ fun r env1 v H1 F1 g1 x1 r1 h1 e2 => by rw [e] at e2; cases e2)
  | ok r0 env0 =>
    cases q : r0.fz with
    | lst ds =>
      refine .inl (core _ fun r env1 v H1 F1 g1 x1 r1 h1 e2 => ?_)
      rw [e] at e2
      cases e2
      rw [q] at r1 h1
      cases r1 with
      | lst l1 l2 => exact ⟨_, rfl, ⟨_, (g1.fh.lr l1).sq⟩, h1 _ H1 F1 g1 (Ex.refl F1) (it_list l1 l2)⟩
    | tup ds =>
      refine .inr (.inl (core _ fun r env1 v H1 F1 g1 x1 r1 h1 e2 => ?_))
      rw [e] at e2
      cases e2
      rw [q] at r1 h1
      cases r1 with
      | tup l1 l2 => exact ⟨_, rfl, ⟨_, g1.fh.t l1.t⟩, h1 _ H1 F1 g1 (Ex.refl F1) (it_tup l1.t l2)⟩
    | str x =>
      refine .inr (.inr (core _ fun r env1 v H1 F1 g1 x1 r1 h1 e2 => ?_))
      rw [e] at e2
      cases e2
      rw [q] at r1 h1
      cases r1
      exact ⟨_, rfl, h1 _ H1 F1 g1 (Ex.refl F1) it_str⟩
    | _ =>
      unfold iVal at h
      rw [e] at h
      dsimp only [OE.bindI] at h
      rw [q] at h
      exact h.elim
theorem n_rng1 (hm : X.mg "range" = none) (ha : PA X [a] (tA Z os)) (hg : Gl X "range" := by rfl) (hs : starEach [a] X.env = [(false, eval a X.env)] := by rfl) : PI X tg (.Call (.Name "range" p) [a] [] pos) (tI Z (iRg1 os)) := by
  refine PI.imp (pi_range1 hg hm ha hs) fun σ H Q ⟨F, env, g, h⟩ => ?_
  refine seqAI g h fun ds env1 vs H1 F1 g1 x1 r1 h1 => ?_
  split at h1
  · rename_i j
    split at h1
    · rename_i c
      obtain ⟨v, rfl, rv⟩ := r1.one
      cases rv
      exact ⟨j, rfl, c.1, c.2, h1 _ H1 F1 g1 (Ex.refl F1) it_rng⟩
    · exact h1.elim
  · exact h1.elim
theorem n_rng2 (hm : X.mg "range" = none) (ha : PA X [a, b] (tA Z os)) (hg : Gl X "range" := by rfl) (he : starEach [a, b] X.env = [(false, eval a X.env), (false, eval b X.env)] := by rfl) (he2 : starEach [b] X.env = [(false, eval b X.env)] := by rfl) : PI X tg (.Call (.Name "range" p) [a, b] [] pos) (tI Z (iRg2 os)) := by
  refine PI.imp (pi_range2 hg hm ha he he2) fun σ H Q ⟨F, env, g, h⟩ => ?_
  refine seqAI g h fun ds env1 vs H1 F1 g1 x1 r1 h1 => ?_
  split at h1
  · rename_i i j
    split at h1
    · rename_i c
      obtain ⟨v, w, rfl, rv, rw'⟩ := r1.two
      cases rv; cases rw'
      exact ⟨i, j, rfl, c, h1 _ H1 F1 g1 (Ex.refl F1) it_rng⟩
    · exact h1.elim
  · exact h1.elim
theorem n_enum (hm : X.mg "enumerate" = none) (ha : PA X [a] (tA Z os)) (hK : Z.G.K = X.K) (hg : Gl X "enumerate" := by rfl) (hs : starEach [a] X.env = [(false, eval a X.env)] := by rfl) : PI X (.Tuple elts kk tpos) (.Call (.Name "enumerate" p) [a] [] pos) (tI Z (iEnm os)) := by
  refine PI.imp (pi_enum hg hm ha hs) fun σ H Q ⟨F, env, g, h⟩ => ?_
  refine seqAI g h fun ds env1 vs H1 F1 g1 x1 r1 h1 => ?_
  split at h1
  · obtain ⟨v, rfl, rv⟩ := r1.one
    rw [← hK]
    cases rv with
    | lst l1 l2 => exact ⟨_, _, rfl, (g1.fh.lr l1).sq, h1 _ H1 F1 g1 (Ex.refl F1) (it_enum l1 l2)⟩
  · exact h1.elim
end
/-! ### for -/
def forL (g : D → Env → Option Env) (body : Env → OS) : List D → Env → OS
  | [], env => .nx env
  | d :: ds, env => match g d env with
    | none => .bad
    | some env1 => match body env1 with
      | .nx e => forL g body ds e
      | .cnt e => forL g body ds e
      | .brk e => .nx e
      | .ret r e => .ret r e
      | .exc x e => .exc x e
      | .bad => .bad
def sFor (oi : Env → OI) (g : D → Env → Option Env) (body : Env → OS) : Env → OS := fun env => (oi env).bindS fun ds e1 => forL g body ds e1
theorem n_for {X : Cx} {Z : Zd} {ws : List Nat} {tg iter : Expr} {body : List Stmt} {oi : Env → OI} {g : TG} {f : D → Env → Option Env} {ob : Env → OS} {pos : Pos} (hp : PassesOwn (model X.prog X.w) X.A X.env X.xe) (hc : X.calm = true) (hi : PI X tg iter (tI Z oi)) (hg : PG X tg g) (ht : TgOk Z.G ws g f) (hb : PSs X body (tS Z ob))
    (hs : ∀ x, foldedSetIterable iter X.env x = pure x := by intro _; rfl) : PS X (.For tg iter body [] pos) (tS Z (sFor oi f ob)) := by
  refine PS.imp (ps_for hp hc hi hg hb hs) fun Dn σ H ⟨F, env, gd, h⟩ => ?_
  refine seqIS gd h fun ds env1 J H1 F1 g1 x1 it h1 => ?_
  refine ⟨fun i m σ' H' => ∃ F2 env2, Good Z F2 σ' H' env2 ∧ Ex F1 F2 ∧ i + m = ds.length ∧ PostS Z F2 Dn (forL f ob (ds.drop i) env2), ⟨ds.length, F1, env1, g1, Ex.refl F1, by omega, h1⟩, fun i m σ' H' hw => ?_⟩
  obtain ⟨F2, env2, g2, x2, hm, h2⟩ := hw
  by_cases hi : i < ds.length
  · have hd : ds[i]? = some ds[i] := List.getElem?_eq_getElem hi
    rw [List.drop_eq_getElem_cons hi] at h2
    generalize hdd : ds[i] = d at h2
    rw [hdd] at hd
    unfold forL at h2
    cases eg : f d env2 with
    | none => rw [eg] at h2; exact h2.elim
    | some env3 =>
      rw [eg] at h2
      dsimp only at h2
      refine .inr ⟨it.go i F2 H' x2 g2.fh hi, fun σ'' H'' => ∃ F3 env4, Good Z F3 σ'' H'' env4 ∧ Ex F1 F3 ∧ PostS Z F3 Dn (forL f ob (ds.drop (i + 1)) env4), fun σ'' H'' hN => ?_, fun x H'' hy => ?_⟩
      · obtain ⟨F3, env4, g3, x3, h3⟩ := hN
        exact ⟨m - 1, by omega, F3, env4, g3, x3, by omega, h3⟩
      · have run : ∀ F4 σ4, Good Z F4 σ4 H'' env3 → Ex F2 F4 → tS Z ob { Dn with nx := fun σ'' H'' => ∃ F3 env4, Good Z F3 σ'' H'' env4 ∧ Ex F1 F3 ∧ PostS Z F3 Dn (forL f ob (ds.drop (i + 1)) env4), ct := fun σ'' H'' => ∃ F3 env4, Good Z F3 σ'' H'' env4 ∧ Ex F1 F3 ∧ PostS Z F3 Dn (forL f ob (ds.drop (i + 1)) env4), bk := Dn.nx } σ4 H'' := by
          intro F4 σ4 g4 x4
          refine ⟨F4, env3, g4, ?_⟩
          replace h2 := PostS.up x4 h2
          cases eb : ob env3 with
          | nx e =>
            rw [eb] at h2
            exact fun σ5 H5 F5 g5 x5 => ⟨F5, e, g5, (x2.trans x4).trans x5, PostS.up x5 h2⟩
          | cnt e =>
            rw [eb] at h2
            exact fun σ5 H5 F5 g5 x5 => ⟨F5, e, g5, (x2.trans x4).trans x5, PostS.up x5 h2⟩
          | brk e => rw [eb] at h2; exact h2
          | ret r e => rw [eb] at h2; exact h2
          | exc x e => rw [eb] at h2; exact h2
          | bad => rw [eb] at h2; exact h2
        rcases it.yld i d F2 H' x H'' x2 g2.fh hd hy with ⟨rfl, rx⟩ | ⟨T, o, hT, rfl, rx⟩
        · exact ht Z F2 σ' H'' env2 env3 x d _ rfl g2 rx eg fun σ4 g4 _ _ => run F2 σ4 g4 (Ex.refl F2)
        · exact ht Z _ σ' _ env2 env3 x d _ rfl (g2.layF hT) rx eg fun σ4 g4 _ _ => run _ σ4 g4 (Ex.new (g2.fresh hT))
  · rw [List.drop_of_length_le (by omega)] at h2
    exact .inl ⟨it.stop i F2 H' x2 g2.fh (by omega), h2 σ' H' F2 g2 (Ex.refl F2)⟩
/-! ### while, by a bound -/
def whL (n : Nat) (ot : Env → OT) (ob : Env → OS) (env : Env) : OS := match n with
  | 0 => .bad
  | n + 1 => (ot env).bindS fun b e1 => if b = true then match ob e1 with
      | .nx e => whL n ot ob e
      | .cnt e => whL n ot ob e
      | .brk e => .nx e
      | .ret r e => .ret r e
      | .exc x e => .exc x e
      | .bad => .bad
    else .nx e1
def sWhile (n : Nat) (ot : Env → OT) (ob : Env → OS) : Env → OS := fun env => whL n ot ob env
theorem n_while (n : Nat) {X : Cx} {Z : Zd} {c : Expr} {body : List Stmt} {ot : Env → OT} {ob : Env → OS} {pos : Pos} (hp : PassesOwn (model X.prog X.w) X.A X.env X.xe) (hc : PT X c (tT Z ot)) (hb : PSs X body (tS Z ob)) : PS X (.While c body [] pos) (tS Z (sWhile n ot ob)) := by
  refine PS.imp (ps_while hp hc hb) fun Dn σ H ⟨F, env, g, h⟩ => ?_
  refine ⟨fun m σ' H' => ∃ F1 env1, Good Z F1 σ' H' env1 ∧ PostS Z F1 Dn (whL m ot ob env1), ⟨n, F, env, g, h⟩, fun m σ' H' hw => ?_⟩
  obtain ⟨F1, env1, g1, h1⟩ := hw
  cases m with
  | zero => exact h1.elim
  | succ m =>
    unfold whL at h1
    refine seqTS g1 h1 fun b env2 H2 F2 g2 x2 h2 => ?_
    cases b with
    | false =>
      show Dn.nx σ' H2
      exact h2 σ' H2 F2 g2 (Ex.refl F2)
    | true =>
      rw [if_pos rfl] at h2
      rw [if_pos rfl]
      refine ⟨fun σ'' H'' => ∃ F1 env1, Good Z F1 σ'' H'' env1 ∧ PostS Z F1 Dn (whL m ot ob env1), fun σ'' H'' hN => ⟨m, Nat.lt_succ_self m, hN⟩, F2, env2, g2, ?_⟩
      cases eb : ob env2 with
      | nx e =>
        rw [eb] at h2
        exact fun σ5 H5 F5 g5 x5 => ⟨F5, e, g5, PostS.up x5 h2⟩
      | cnt e =>
        rw [eb] at h2
        exact fun σ5 H5 F5 g5 x5 => ⟨F5, e, g5, PostS.up x5 h2⟩
      | brk e => rw [eb] at h2; exact h2
      | ret r e => rw [eb] at h2; exact h2
      | exc x e => rw [eb] at h2; exact h2
      | bad => rw [eb] at h2; exact h2
end FE

namespace FE
open PySem PySem.Spec PyProof.Rows L2

/-! ### a part that is walked apart: what stands stays -/
def OwnedAt (σ : L2.St) (env : Env) (a : Addr) : Prop := ∃ (i : Nat) (s : SV), env[i]? = some s ∧ (Own s).isSome = true ∧ σ[i]? = some (some (.ref a))
open Classical in
noncomputable def hideO (σ : L2.St) (env : Env) (H : Hp) : Hp := fun a => if OwnedAt σ env a then none else H a
noncomputable def Zd.apart (Z : Zd) (F : Hp) (σ : L2.St) (H : Hp) (env : Env) : Zd := { Z with F0 := F, H0 := hideO σ env H, W := fun _ _ _ _ => False }
section
variable {Z : Zd} {F F' H H' : Hp} {σ : L2.St} {env env' : Env}
theorem hideO_some {a : Addr} {o : HO} (h : hideO σ env H a = some o) : H a = some o ∧ ¬ OwnedAt σ env a := by
  unfold hideO at h
  split at h
  · cases h
  · rename_i c
    exact ⟨h, c⟩
theorem hideO_keep {a : Addr} {o : HO} (h : H a = some o) (n : ¬ OwnedAt σ env a) : hideO σ env H a = some o := by
  unfold hideO
  rw [if_neg n]
  exact h
theorem hideO_none {a : Addr} (h : hideO σ env H a = none) : H a = none ∨ OwnedAt σ env a := by
  unfold hideO at h
  split at h
  · rename_i c
    exact .inr c
  · exact .inl h
theorem hideO_own {a : Addr} (h : OwnedAt σ env a) : hideO σ env H a = none := by
  unfold hideO
  rw [if_pos h]
theorem Good.apart (g : Good Z F σ H env) : Good (Z.apart F σ H env) F σ H env where
  ff := Ex.refl F
  fh := g.fh
  keep := fun a o e _ => (hideO_some e).1
  new := fun a o e n => by
    have n' : F a = none := n
    rw [n'] at e
    cases e
  len := g.len
  sh := g.sh
  ow := fun i s ds e1 e2 => by
    obtain ⟨a, vs, h1, h2, h3, h4, h5⟩ := g.ow i s ds e1 e2
    exact ⟨a, vs, h1, h2, h3, h4, .inr (hideO_own ⟨i, s, e1, by rw [e2]; rfl, h1⟩)⟩
  io := g.io
  nio := fun i ds e a ea => hideO_own ⟨i, _, e, rfl, ea⟩
  pa := g.pa
  dis := g.dis
theorem Good.ownNone (g : Good Z F σ H env) {a : Addr} (h : OwnedAt σ env a) : a ∈ Z.ps ∨ Z.H0 a = none := by
  obtain ⟨i, s, e1, e2, e3⟩ := h
  cases q : Own s with
  | none => rw [q] at e2; cases e2
  | some ds =>
    obtain ⟨b, vs, h1, _, _, _, h5⟩ := g.ow i s ds e1 q
    rw [e3] at h1
    cases h1
    exact h5
theorem Good.back (g : Good Z F σ H env) (g' : Good (Z.apart F σ H env) F' σ H' env') : Good Z F' σ H' env' where
  ff := g.ff.trans g'.ff
  fh := g'.fh
  keep := fun a o e n => by
    refine g'.keep a o (hideO_keep (g.keep a o e n) fun q => ?_) n
    rcases g.ownNone q with q | q
    · exact n q
    · rw [q] at e
      cases e
  new := fun a o e n => by
    cases q : F a with
    | some u => exact g.new a u q n
    | none =>
      rcases hideO_none (g'.new a o e q) with z | z
      · exact g.fresh0 z
      · rcases g.ownNone z with z | z
        · obtain ⟨i, ds, e1, e2⟩ := g'.pa a z
          obtain ⟨b, vs, h1, _, h3, _⟩ := g'.ow i _ _ e1 rfl
          rw [e2] at h1
          cases h1
          rw [e] at h3
          cases h3
        · exact z
  len := g'.len
  sh := g'.sh
  ow := fun i s ds e1 e2 => by
    obtain ⟨a, vs, h1, h2, h3, h4, h5⟩ := g'.ow i s ds e1 e2
    refine ⟨a, vs, h1, h2, h3, h4, ?_⟩
    rcases h5 with h5 | h5
    · exact .inl h5
    · rcases hideO_none h5 with z | z
      · exact .inr (g.fresh0 z)
      · exact g.ownNone z
  io := g'.io
  nio := fun i ds e a ea => by
    rcases hideO_none (g'.nio i ds e a ea) with z | z
    · exact g.fresh0 z
    · rcases g.ownNone z with z | z
      · obtain ⟨j, es, e1, e2⟩ := g'.pa a z
        have ne : i ≠ j := fun q => by
          subst q
          rw [e] at e1
          cases e1
        exact absurd e2 (g'.dis i j a _ _ ne e e1 rfl rfl ea)
      · exact z
  pa := g'.pa
  dis := g'.dis
/-- what stood and was nobody's own stands, and is nobody's own -/
theorem Good.stood {σ' : L2.St} (g' : Good (Z.apart F σ H env) F' σ' H' env') {a : Addr} {o : HO} (h : H a = some o) (n : ¬ OwnedAt σ env a) (np : a ∉ Z.ps) : H' a = some o :=
  g'.keep a o (hideO_keep h n) np
theorem Good.other (g : Good Z F σ H env) {a : Addr} {o : HO} (hF : F a = none) (h0 : Z.H0 a = none) (n : ¬ OwnedAt σ env a) : Good Z F σ (upd H a o) env where
  ff := g.ff
  fh := fun b u e => by
    have ne : b ≠ a := fun q => by
      subst q
      rw [hF] at e
      cases e
    rw [upd_ne ne]
    exact g.fh b u e
  keep := fun b u e m => by
    have ne : b ≠ a := fun q => by
      subst q
      rw [h0] at e
      cases e
    rw [upd_ne ne]
    exact g.keep b u e m
  new := g.new
  len := g.len
  sh := g.sh
  ow := fun i s ds e1 e2 => by
    obtain ⟨b, vs, h1, h2, h3, h4, h5⟩ := g.ow i s ds e1 e2
    have ne : b ≠ a := fun q => by
      subst q
      exact n ⟨i, s, e1, by rw [e2]; rfl, h1⟩
    exact ⟨b, vs, h1, by rw [upd_ne ne]; exact h2, h3, h4, h5⟩
  io := g.io
  nio := g.nio
  pa := g.pa
  dis := g.dis
/-- a slot is emptied -/
theorem Good.wipe1 (g : Good Z F σ H env) {v : Nat} (hv : noIo env[v]? = true) : Good Z F (σ.set v none) H (env.set v .no) where
  ff := g.ff
  fh := g.fh
  keep := g.keep
  new := g.new
  len := by rw [List.length_set, List.length_set]; exact g.len
  sh := fun j d e => by
    rcases get_set e with ⟨rfl, e2⟩ | ⟨ne, e2⟩
    · cases e2
    · obtain ⟨w, h1, h2⟩ := g.sh j d e2
      exact ⟨w, by rw [List.getElem?_set_ne ne]; exact h1, h2⟩
  ow := fun j s ds e eo => by
    rcases get_set e with ⟨rfl, e2⟩ | ⟨ne, e2⟩
    · subst e2
      cases eo
    · obtain ⟨a, vs, h1, h2⟩ := g.ow j s ds e2 eo
      exact ⟨a, vs, by rw [List.getElem?_set_ne ne]; exact h1, h2⟩
  io := fun j ds e => by
    rcases get_set e with ⟨rfl, e2⟩ | ⟨ne, e2⟩
    · cases e2
    · obtain ⟨a, h1, h2⟩ := g.io j ds e2
      exact ⟨a, by rw [List.getElem?_set_ne ne]; exact h1, h2⟩
  nio := fun j ds e a ea => by
    rcases get_set e with ⟨rfl, e2⟩ | ⟨ne, e2⟩
    · cases e2
    · rw [List.getElem?_set_ne ne] at ea
      exact g.nio j ds e2 a ea
  pa := fun a ha => by
    obtain ⟨j, ds, e1, e2⟩ := g.pa a ha
    have ne : v ≠ j := fun q => by
      subst q
      rw [e1] at hv
      cases hv
    exact ⟨j, ds, by rw [List.getElem?_set_ne ne]; exact e1, by rw [List.getElem?_set_ne ne]; exact e2⟩
  dis := fun j k a s t njk ej ek sj sk hj => by
    rcases get_set ej with ⟨rfl, e1⟩ | ⟨n1, e1⟩
    · subst e1
      cases sj
    · rw [List.getElem?_set_ne n1] at hj
      rcases get_set ek with ⟨rfl, e2⟩ | ⟨n2, e2⟩
      · subst e2
        cases sk
      · rw [List.getElem?_set_ne n2]
        exact g.dis j k a s t njk e1 e2 sj sk hj
/-- a slot stands again as it stood -/
theorem Good.rest1 {v : Nat} {s : SV} (g : Good Z F (σ.set v none) H env) (hv : noIo env[v]? = true) (hs : s = .no ∨ ∃ d x, s = .sh d ∧ σ[v]? = some (some x) ∧ Rep Z.G F x d) : Good Z F σ H (env.set v s) where
  ff := g.ff
  fh := g.fh
  keep := g.keep
  new := g.new
  len := by
    have := g.len
    rw [List.length_set] at this
    rw [List.length_set]
    exact this
  sh := fun j d e => by
    rcases get_set e with ⟨rfl, e2⟩ | ⟨ne, e2⟩
    · rcases hs with rfl | ⟨d', x, rfl, h1, h2⟩
      · cases e2
      · cases e2
        exact ⟨x, h1, h2⟩
    · obtain ⟨w, h1, h2⟩ := g.sh j d e2
      rw [List.getElem?_set_ne ne] at h1
      exact ⟨w, h1, h2⟩
  ow := fun j t ds e eo => by
    rcases get_set e with ⟨rfl, e2⟩ | ⟨ne, e2⟩
    · subst e2
      rcases hs with rfl | ⟨d', x, rfl, h1, h2⟩ <;> cases eo
    · obtain ⟨a, vs, h1, h2⟩ := g.ow j t ds e2 eo
      rw [List.getElem?_set_ne ne] at h1
      exact ⟨a, vs, h1, h2⟩
  io := fun j ds e => by
    rcases get_set e with ⟨rfl, e2⟩ | ⟨ne, e2⟩
    · rcases hs with rfl | ⟨d', x, rfl, h1, h2⟩ <;> cases e2
    · obtain ⟨a, h1, h2⟩ := g.io j ds e2
      rw [List.getElem?_set_ne ne] at h1
      exact ⟨a, h1, h2⟩
  nio := fun j ds e a ea => by
    rcases get_set e with ⟨rfl, e2⟩ | ⟨ne, e2⟩
    · rcases hs with rfl | ⟨d', x, rfl, h1, h2⟩ <;> cases e2
    · refine g.nio j ds e2 a ?_
      rw [List.getElem?_set_ne ne]
      exact ea
  pa := fun a ha => by
    obtain ⟨j, ds, e1, e2⟩ := g.pa a ha
    have ne : v ≠ j := fun q => by
      subst q
      rw [e1] at hv
      cases hv
    rw [List.getElem?_set_ne ne] at e2
    exact ⟨j, ds, by rw [List.getElem?_set_ne ne]; exact e1, e2⟩
  dis := fun j k a t u njk ej ek sj sk hj hk => by
    rcases get_set ej with ⟨rfl, e1⟩ | ⟨n1, e1⟩
    · subst e1
      rcases hs with rfl | ⟨d', x, rfl, h1, h2⟩ <;> cases sj
    · rcases get_set ek with ⟨rfl, e2⟩ | ⟨n2, e2⟩
      · subst e2
        rcases hs with rfl | ⟨d', x, rfl, h1, h2⟩ <;> cases sk
      · exact g.dis j k a t u njk e1 e2 sj sk (by rw [List.getElem?_set_ne n1]; exact hj) (by rw [List.getElem?_set_ne n2]; exact hk)
end
/-! ### comprehensions -/
def wipeE (env : Env) : List Nat → Env
  | [] => env
  | v :: vs => (wipeE env vs).set v .no
def okW (env : Env) (v : Nat) : Bool := match env[v]? with
  | some .no => true
  | some (.sh _) => true
  | _ => false
def restE (e1 e2 : Env) : List Nat → Env
  | [] => e2
  | v :: vs => restE e1 (e2.set v (e1.getD v .no)) vs
def lcL (f : D → Env → Option Env) (ot : Env → OT) (oe : Env → OE) (ws : List Nat) : List D → Env → List D → Option (List D × Env)
  | [], env, acc => some (acc, env)
  | d :: ds, env, acc => match f d env with
    | none => none
    | some e1 => match ot e1 with
      | .ok true e2 => match oe e2 with
        | .ok r e3 => if ws.all (fun v => noIo e3[v]?) = true ∧ acc.length < 1000000 then lcL f ot oe ws ds (wipeE e3 ws) (acc ++ [r.fz]) else none
        | _ => none
      | .ok false e2 => if ws.all (fun v => noIo e2[v]?) = true then lcL f ot oe ws ds (wipeE e2 ws) acc else none
      | _ => none
def oLc (oi : Env → OI) (f : D → Env → Option Env) (ot : Env → OT) (oe : Env → OE) (ws : List Nat) : Env → OE := fun env => (oi env).bindE fun ds e1 =>
  if ws.all (okW e1) = true then match lcL f ot oe ws ds (wipeE e1 ws) [] with
    | some (acc, e2) => if ws.all (fun v => noIo e2[v]?) = true then .ok (.ow acc) (restE e1 e2 ws) else .bad
    | none => .bad
  else .bad
section
variable {Z : Zd} {F F' H H' : Hp} {σ : L2.St} {env env' : Env}
theorem wipe_get : ∀ (vs : List Nat) (j : Nat), (wipe σ vs)[j]? = if j ∈ vs ∧ j < σ.length then some none else σ[j]?
  | [], j => by simp [wipe]
  | v :: vs, j => by
    unfold wipe
    by_cases h : v = j
    · subst h
      by_cases hl : v < σ.length
      · rw [List.getElem?_set_self (by rw [wipe_length]; exact hl), if_pos ⟨List.mem_cons_self, hl⟩]
      · rw [List.getElem?_eq_none (by rw [List.length_set, wipe_length]; omega), if_neg (fun q => hl q.2), List.getElem?_eq_none (by omega)]
    · rw [List.getElem?_set_ne h, wipe_get vs j]
      have : (j ∈ v :: vs ∧ j < σ.length) ↔ (j ∈ vs ∧ j < σ.length) := by
        rw [List.mem_cons]
        constructor
        · rintro ⟨q | q, l⟩
          · exact absurd q.symm h
          · exact ⟨q, l⟩
        · rintro ⟨q, l⟩
          exact ⟨.inr q, l⟩
      simp only [this]
theorem wipe_ext {σ' : L2.St} {vs : List Nat} (h : ∀ j, j ∉ vs → σ'[j]? = (wipe σ vs)[j]?) (hl : σ'.length = σ.length) : wipe σ' vs = wipe σ vs := by
  apply List.ext_getElem?
  intro j
  rw [wipe_get, wipe_get, hl]
  by_cases c : j ∈ vs ∧ j < σ.length
  · rw [if_pos c, if_pos c]
  · rw [if_neg c, if_neg c]
    by_cases m : j ∈ vs
    · have : σ.length ≤ j := by
        rcases Nat.lt_or_ge j σ.length with q | q
        · exact absurd ⟨m, q⟩ c
        · exact q
      rw [List.getElem?_eq_none this, List.getElem?_eq_none (by omega)]
    · rw [h j m, wipe_get, if_neg c]
theorem noIo_set {l : Env} {i j : Nat} {s : SV} (h : noIo l[j]? = true) (hs : noIo (some s) = true) : noIo (l.set i s)[j]? = true := by
  by_cases e : i = j
  · subst e
    by_cases hl : i < l.length
    · rw [List.getElem?_set_self hl]; exact hs
    · rw [List.getElem?_eq_none (by rw [List.length_set]; omega)]; rfl
  · rw [List.getElem?_set_ne e]; exact h
theorem noIo_wipeE : ∀ {vs : List Nat} {j : Nat}, noIo env[j]? = true → noIo (wipeE env vs)[j]? = true
  | [], _, h => h
  | _ :: vs, _, h => noIo_set (noIo_wipeE (vs := vs) h) rfl
theorem Good.wipes (g : Good Z F σ H env) : ∀ {vs : List Nat}, (∀ v ∈ vs, noIo env[v]? = true) → Good Z F (wipe σ vs) H (wipeE env vs)
  | [], _ => g
  | v :: vs, h => (Good.wipes g fun w hw => h w (List.mem_cons_of_mem _ hw)).wipe1 (noIo_wipeE (h v List.mem_cons_self))
/-- the slots as they stood -/
theorem Good.rests {e1 : Env} {F1 : Hp} {H1 : Hp} (g0 : Good Z F1 σ H1 e1) (x : Ex F1 F) : ∀ {vs : List Nat} {env : Env}, Good Z F (wipe σ vs) H env → vs.Nodup → (∀ v ∈ vs, okW e1 v = true) → (∀ v ∈ vs, noIo env[v]? = true) → Good Z F σ H (restE e1 env vs)
  | [], _, g, _, _, _ => g
  | v :: vs, env, g, nd, ok, no => by
    have nv : v ∉ vs := (List.nodup_cons.mp nd).1
    have hs : e1.getD v .no = .no ∨ ∃ d y, e1.getD v .no = .sh d ∧ (wipe σ vs)[v]? = some (some y) ∧ Rep Z.G F y d := by
      have o := ok v List.mem_cons_self
      unfold okW at o
      rw [List.getD_eq_getElem?_getD]
      cases q : e1[v]? with
      | none => rw [q] at o; cases o
      | some s =>
        rw [q] at o
        cases s with
        | no => exact .inl rfl
        | sh d =>
          obtain ⟨y, h1, h2⟩ := g0.sh v d q
          refine .inr ⟨d, y, rfl, ?_, h2.mono x⟩
          rw [wipe_get, if_neg (fun c => nv c.1)]
          exact h1
        | ow ds => cases o
        | io ds => cases o
    have g2 : Good Z F (wipe σ vs) H (env.set v (e1.getD v .no)) := Good.rest1 (σ := wipe σ vs) g (no v List.mem_cons_self) hs
    refine Good.rests (vs := vs) g0 x g2 (List.nodup_cons.mp nd).2 (fun w hw => ok w (List.mem_cons_of_mem _ hw)) fun w hw => noIo_set (no w (List.mem_cons_of_mem _ hw)) ?_
    rcases hs with q | ⟨d, y, q, _⟩ <;> rw [q] <;> rfl
theorem restE_own {e1 : Env} : ∀ {vs : List Nat} {env : Env} {i : Nat} {s : SV}, (∀ v ∈ vs, okW e1 v = true) → (restE e1 env vs)[i]? = some s → (Own s).isSome = true → env[i]? = some s ∧ i ∉ vs
  | [], _, _, _, _, h, _ => ⟨h, by simp⟩
  | v :: vs, env, i, s, ok, h, o => by
    obtain ⟨h1, h2⟩ := restE_own (vs := vs) (fun w hw => ok w (List.mem_cons_of_mem _ hw)) h o
    rcases get_set h1 with ⟨rfl, q⟩ | ⟨ne, q⟩
    · exfalso
      have ok1 := ok v List.mem_cons_self
      unfold okW at ok1
      rw [List.getD_eq_getElem?_getD] at q
      cases z : e1[v]? with
      | none => rw [z] at ok1; cases ok1
      | some t =>
        rw [z] at ok1 q
        cases t with
        | no => rw [show s = SV.no from q] at o; cases o
        | sh d => rw [show s = SV.sh d from q] at o; cases o
        | ow ds => cases ok1
        | io ds => cases ok1
    · exact ⟨q, fun m => (List.mem_cons.mp m).elim (fun e => ne e.symm) h2⟩
end
end FE

namespace FE
open PySem PySem.Spec PyProof.Rows L2

abbrev CZ := PySem.Str → Value → Prop
def Zq (G : Gd) (C : CZ) (Z' : Zd) : Prop := Z'.G = G ∧ Z'.C = C ∧ Z'.W = fun _ _ _ _ => False
def tTx (G : Gd) (C : CZ) (o : Env → OT) : TT := fun σ H Q => ∃ Z', Zq G C Z' ∧ tT Z' o σ H Q
def tEx (G : Gd) (C : CZ) (o : Env → OE) : TE := fun σ H Q => ∃ Z', Zq G C Z' ∧ tE Z' o σ H Q
theorem takesQ {X : Cx} {G : Gd} {C : CZ} {Z : Zd} (q : Zq G C Z) : Takes X Z.W := by
  rw [q.2.2]
  exact takes0
def oYes : Env → OT := fun env => .ok true env
theorem lc_to {Z : Zd} {oi : Env → OI} {g : TG} {f : D → Env → Option Env} {ot : Env → OT} {oe : Env → OE} {ws : List Nat} (ht : TgOk Z.G ws g f) (nd : ws.Nodup) {σ : L2.St} {H : Hp} {Q : VK} (h : tE Z (oLc oi f ot oe ws) σ H Q) :
    tLc (tI Z oi) g (tTx Z.G Z.C ot) (tEx Z.G Z.C oe) ws σ H Q := by
  obtain ⟨F, env, g0, h⟩ := h
  refine seqIE g0 h fun ds env1 J H1 F1 g1 x1 it h1 => ?_
  split at h1
  case isFalse => exact h1.elim
  rename_i cw
  have okw : ∀ v ∈ ws, okW env1 v = true := by simpa using cw
  have noio : ∀ v ∈ ws, noIo env1[v]? = true := fun v hv => by
    have o := okw v hv
    unfold okW at o
    cases q : env1[v]? with
    | none => rfl
    | some s =>
      rw [q] at o
      cases s <;> first | rfl | cases o
  intro L hL
  cases er : lcL f ot oe ws ds (wipeE env1 ws) [] with
  | none => rw [er] at h1; exact h1.elim
  | some pr =>
    obtain ⟨accF, eF⟩ := pr
    rw [er] at h1
    dsimp only at h1
    split at h1
    case isFalse => exact h1.elim
    rename_i cF
    have noF : ∀ v ∈ ws, noIo eF[v]? = true := by simpa using cF
    have g2 := (g1.lay (o := .lst []) hL).wipes noio
    have Z0L : Z.H0 L = none := g1.fresh0 hL
    have nps : L ∉ Z.ps := g1.nps hL
    refine ⟨fun i m H' => ∃ F2 env2 vacc acc, Good Z F2 (wipe σ ws) H' env2 ∧ Ex F1 F2 ∧ i + m = ds.length ∧ H' L = some (.lst vacc) ∧ F2 L = none ∧ RepL Z.G F2 vacc acc ∧ ¬ OwnedAt (wipe σ ws) env2 L ∧
      lcL f ot oe ws (ds.drop i) env2 acc = some (accF, eF), ⟨ds.length, F1, _, [], [], g2, Ex.refl F1, by omega, upd_same, g1.fresh hL, .nil, ?_, er⟩, fun i m H' hw => ?_⟩
    · rintro ⟨i, s, e1, e2, e3⟩
      cases q : Own s with
      | none => rw [q] at e2; cases e2
      | some es =>
        -- an own list of the wiped slots is one of before
        have back : ∀ {vs : List Nat}, (wipeE env1 vs)[i]? = some s → env1[i]? = some s := by
          intro vs
          induction vs with
          | nil => exact id
          | cons v vs ih =>
            intro h
            rcases get_set h with ⟨rfl, z⟩ | ⟨_, z⟩
            · subst z
              cases q
            · exact ih z
        have e4 := back e1
        obtain ⟨a, vs, k1, k2, _⟩ := g1.ow i s es e4 q
        have e5 := (wipe_some e3).1
        rw [e5] at k1
        cases k1
        rw [hL] at k2
        cases k2
    obtain ⟨F2, env2, vacc, acc, g3, x2, hm, hLc, hFL, racc, nL, h2⟩ := hw
    by_cases hi : i < ds.length
    · have hd : ds[i]? = some ds[i] := List.getElem?_eq_getElem hi
      rw [List.drop_eq_getElem_cons hi] at h2
      generalize hdd : ds[i] = d at h2
      rw [hdd] at hd
      refine .inr ⟨it.go i F2 H' x2 g3.fh hi, fun H'' => ∃ m', m' < m ∧ (∃ F2 env2 vacc acc, Good Z F2 (wipe σ ws) H'' env2 ∧ Ex F1 F2 ∧ (i + 1) + m' = ds.length ∧ H'' L = some (.lst vacc) ∧ F2 L = none ∧ RepL Z.G F2 vacc acc ∧ ¬ OwnedAt (wipe σ ws) env2 L ∧
        lcL f ot oe ws (ds.drop (i + 1)) env2 acc = some (accF, eF)), fun H'' hN => hN, fun x H'' hy => ?_⟩
      unfold lcL at h2
      cases eg : f d env2 with
      | none => rw [eg] at h2; cases h2
      | some env3 =>
        rw [eg] at h2
        dsimp only at h2
        -- the turn, apart from what stands
        have ga := g3.apart
        have turn : ∀ F4 H4, Good (Z.apart F2 (wipe σ ws) H' env2) F4 (wipe σ ws) H4 env2 → Ex F2 F4 → Rep Z.G F4 x d → g x (wipe σ ws) H4 fun σ2 H2 => wipe σ2 ws = wipe σ ws ∧ tTx Z.G Z.C ot σ2 H2 fun b H3 =>
            if b = true then tEx Z.G Z.C oe σ2 H3 fun y H4 => ∃ acc, H4 L = some (.lst acc) ∧ acc.length < sizeLine ∧ (∃ m', m' < m ∧ (∃ F2 env2 vacc acc', Good Z F2 (wipe σ ws) (upd H4 L (.lst (acc ++ [y]))) env2 ∧ Ex F1 F2 ∧ (i + 1) + m' = ds.length ∧ upd H4 L (.lst (acc ++ [y])) L = some (.lst vacc) ∧ F2 L = none ∧ RepL Z.G F2 vacc acc' ∧ ¬ OwnedAt (wipe σ ws) env2 L ∧
              lcL f ot oe ws (ds.drop (i + 1)) env2 acc' = some (accF, eF)))
            else (∃ m', m' < m ∧ (∃ F2 env2 vacc acc, Good Z F2 (wipe σ ws) H3 env2 ∧ Ex F1 F2 ∧ (i + 1) + m' = ds.length ∧ H3 L = some (.lst vacc) ∧ F2 L = none ∧ RepL Z.G F2 vacc acc ∧ ¬ OwnedAt (wipe σ ws) env2 L ∧
              lcL f ot oe ws (ds.drop (i + 1)) env2 acc = some (accF, eF))) := by
          intro F4 H4 g4 x4 r4
          refine ht (Z.apart F2 (wipe σ ws) H' env2) F4 (wipe σ ws) H4 env2 env3 x d _ rfl g4 r4 eg fun σ2 g5 k5 l5 => ?_
          have ws2 : wipe σ2 ws = wipe σ ws := wipe_ext k5 (by rw [l5, wipe_length])
          have kept : hideO (wipe σ ws) env2 H' L = some (.lst vacc) := hideO_keep hLc nL
          -- the state behind the turn
          have fin : ∀ F8 H7 e3, Good (Z.apart F2 (wipe σ ws) H' env2) F8 σ2 H7 e3 → Ex F4 F8 → ws.all (fun v => noIo e3[v]?) = true → Good Z F8 (wipe σ ws) H7 (wipeE e3 ws) ∧ Ex F1 F8 ∧ H7 L = some (.lst vacc) ∧ F8 L = none ∧ RepL Z.G F8 vacc acc ∧ ¬ OwnedAt (wipe σ ws) (wipeE e3 ws) L := by
            intro F8 H7 e3 g8 x8 c8
            have g9 := g8.wipes (vs := ws) (by simpa using c8)
            rw [ws2] at g9
            refine ⟨g3.back g9, x2.trans (x4.trans x8), g8.stood hLc nL nps, ?_, racc.mono (x4.trans x8), fun q => ?_⟩
            · cases q : F8 L with
              | none => rfl
              | some o =>
                have z : hideO (wipe σ ws) env2 H' L = none := g8.new L o q hFL
                rw [kept] at z
                cases z
            · rcases g9.ownNone q with z | z
              · exact nps z
              · have z' : hideO (wipe σ ws) env2 H' L = none := z
                rw [kept] at z'
                cases z'
          refine ⟨ws2, Z.apart F2 (wipe σ ws) H' env2, ⟨rfl, rfl, rfl⟩, F4, env3, g5, ?_⟩
          cases eo : ot env3 with
          | bad => rw [eo] at h2; cases h2
          | exc x e => rw [eo] at h2; cases h2
          | ok b e2 =>
            rw [eo] at h2
            intro H6 F6 g6 x6
            cases b with
            | false =>
              dsimp only at h2
              rw [if_neg Bool.false_ne_true]
              split at h2
              case isFalse => cases h2
              rename_i c
              obtain ⟨k1, k2, k3, k4, k5, k6⟩ := fin F6 H6 e2 g6 x6 c
              exact ⟨m - 1, by omega, F6, _, vacc, acc, k1, k2, by omega, k3, k4, k5, k6, h2⟩
            | true =>
              dsimp only at h2
              rw [if_pos rfl]
              refine ⟨Z.apart F2 (wipe σ ws) H' env2, ⟨rfl, rfl, rfl⟩, F6, e2, g6, ?_⟩
              cases er : oe e2 with
              | bad => rw [er] at h2; cases h2
              | exc x e => rw [er] at h2; cases h2
              | ok r e3 =>
                rw [er] at h2
                dsimp only at h2
                split at h2
                case isFalse => cases h2
                rename_i c
                intro y H7 F7 g7 x7 r7
                obtain ⟨F8, g8, x8, r8⟩ := g7.give r7
                obtain ⟨k1, k2, k3, k4, k5, k6⟩ := fin F8 H7 e3 g8 (x6.trans (x7.trans x8)) c.1
                refine ⟨vacc, k3, Nat.lt_of_lt_of_le (by rw [k5.length]; exact c.2) big_line, m - 1, by omega, F8, _, vacc ++ [y], acc ++ [r.fz], k1.other k4 Z0L k6, k2, by omega, upd_same, k4, k5.append (.single r8), k6, h2⟩
        rcases it.yld i d F2 H' x H'' x2 g3.fh hd hy with ⟨rfl, rx⟩ | ⟨T, o, hT, rfl, rx⟩
        · exact turn F2 H'' ga (Ex.refl F2) rx
        · exact turn _ _ (ga.layF hT) (Ex.new (g3.fresh hT)) rx
    · rw [List.drop_of_length_le (by omega)] at h2
      cases h2
      refine .inl ⟨it.stop i F2 H' x2 g3.fh (by omega), ?_⟩
      have gr := Good.rests g1 x2 g3 nd okw noF
      refine h1 (.ref L) H' F2 gr x2 ⟨L, vacc, rfl, hLc, hFL, racc, Z0L, fun i s e1 e2 e3 => ?_⟩
      obtain ⟨q1, q2⟩ := restE_own okw e1 e2
      refine nL ⟨i, s, q1, e2, ?_⟩
      rw [wipe_get, if_neg (fun c => q2 c.1)]
      exact e3
section
variable {X : Cx} {Z : Zd} {elt tg iter : Expr} {ifs : List Expr} {scope : Scope} {own : List (PySem.Str × Nat)} {pos spos py : Pos} {oi : Env → OI} {g : TG} {f : D → Env → Option Env} {ot : Env → OT} {oe : Env → OE} {i : Nat} {y : PySem.Str}
theorem PTs.imp {c : List Expr} {t t' : TT} (h : PTs X c t) (k : ∀ σ H Q, t' σ H Q → t σ H Q) : PTs X c t' := ⟨fun pins s σ H Q I q => h.run pins s σ H Q I (k σ H Q q)⟩
theorem n_yes {X : Cx} {Z : Zd} : PTs X [] (tT Z oYes) := PTs.imp pts_nil fun σ H Q ⟨F, env, g, h⟩ => h H F g (Ex.refl F)
theorem n_test {X : Cx} {Z : Zd} {c : Expr} {o : Env → OT} (h : PT X c (tT Z o)) : PTs X [c] (tT Z o) := pts_one h
theorem n_lc (hc : X.calm = true) (hN : X.N.Nodup) (hi : PI X tg iter (tI Z oi)) (ok : BlkOk X.N X.env.scope scope own) (nd : (own.map (·.2)).Nodup) (ht : TgOk Z.G (own.map (·.2)) g f)
    (hg : ∀ (s : Shared) (H : Hp) (C : Addr) (cl : List (PySem.Str × Addr)) (fp : List Addr), PG (X.blk s H scope (compEnvC scope cl C X.env) fp) tg g)
    (hT : ∀ (Z' : Zd), Zq Z.G Z.C Z' → ∀ (s : Shared) (H : Hp) (C : Addr) (cl : List (PySem.Str × Addr)) (fp : List Addr), PTs (X.blk s H scope (compEnvC scope cl C X.env) fp) ifs (tT Z' ot))
    (he : ∀ (Z' : Zd), Zq Z.G Z.C Z' → ∀ (s : Shared) (H : Hp) (C : Addr) (cl : List (PySem.Str × Addr)) (fp : List Addr), PE (X.blk s H scope (compEnvC scope cl C X.env) fp) elt (tE Z' oe)) (hs : ∀ x, foldedSetIterable iter X.env x = pure x := by intro _; rfl) :
    PE X (.ListComp elt [⟨tg, iter, ifs, 0⟩] scope pos) (tE Z (oLc oi f ot oe (own.map (·.2)))) :=
  PE.imp (pe_lc (tt := tTx Z.G Z.C ot) (te := tEx Z.G Z.C oe) hc hN hi ok hg (fun s H C cl fp => ⟨fun pins s' σ H' Q I ⟨Z', q, h⟩ => (hT Z' q s H C cl fp).run pins s' σ H' Q I h⟩) (fun s H C cl fp => ⟨fun pins s' σ H' Q I ⟨Z', q, h⟩ => (he Z' q s H C cl fp).run pins s' σ H' Q I h⟩) hs) fun σ H Q h => lc_to ht nd h
/-- name = [..], on one line -/
theorem n_asgLc (i : Nat) (hc : X.calm = true) (hN : X.N.Nodup) (hi : PI X tg iter (tI Z oi)) (ok : BlkOk X.N X.env.scope scope own) (nd : (own.map (·.2)).Nodup) (ht : TgOk Z.G (own.map (·.2)) g f)
    (hg : ∀ (s : Shared) (H : Hp) (C : Addr) (cl : List (PySem.Str × Addr)) (fp : List Addr), PG (X.blk s H scope (compEnvC scope cl C X.env) fp) tg g)
    (hT : ∀ (Z' : Zd), Zq Z.G Z.C Z' → ∀ (s : Shared) (H : Hp) (C : Addr) (cl : List (PySem.Str × Addr)) (fp : List Addr), PTs (X.blk s H scope (compEnvC scope cl C X.env) fp) ifs (tT Z' ot))
    (he : ∀ (Z' : Zd), Zq Z.G Z.C Z' → ∀ (s : Shared) (H : Hp) (C : Addr) (cl : List (PySem.Str × Addr)) (fp : List Addr), PE (X.blk s H scope (compEnvC scope cl C X.env) fp) elt (tE Z' oe))
    (hsw : swapsWith (.ListComp elt [⟨tg, iter, ifs, 0⟩] scope pos) (some (.Name y py)) spos.line X.env = pure true)
    (hy : X.N[i]? = some y := by rfl) (hyl : X.env.scope.names.lookup y = some .local := by rfl) (hs : ∀ x, foldedSetIterable iter X.env x = pure x := by intro _; rfl) :
    PS X (.Assign [.Name y py] (.ListComp elt [⟨tg, iter, ifs, 0⟩] scope pos) spos) (tS Z (sAsg i (oLc oi f ot oe (own.map (·.2))))) := by
  refine PS.imp (ps_setLc (i := i) (tt := tTx Z.G Z.C ot) (te := tEx Z.G Z.C oe) hc hN hy hyl hsw hi ok hg (fun s H C cl fp => ⟨fun pins s' σ H' Q I ⟨Z', q, h⟩ => (hT Z' q s H C cl fp).run pins s' σ H' Q I h⟩) (fun s H C cl fp => ⟨fun pins s' σ H' Q I ⟨Z', q, h⟩ => (he Z' q s H C cl fp).run pins s' σ H' Q I h⟩) hs) fun Dn σ H ⟨F, env, g0, h⟩ => ?_
  refine lc_to ht nd (seqES g0 h fun r env1 v H1 F1 g1 x1 r1 h1 => ?_)
  split at h1
  · rename_i c
    exact h1 _ H1 F1 (g1.asg r1 c) (Ex.refl F1)
  · exact h1.elim
end
end FE

namespace FE
open PySem PySem.Spec PyProof.Rows L2

/-! ### defs -/
inductive OC where
  | ret (r : R) (out : List D) | exc (x : Xc) (out : List D) | bad
def ioD : D → SV
  | .lst es => .io es
  | _ => .no
def argEnv : Option Nat → List D → Env
  | none, ds => ds.map SV.sh
  | some _, [] => []
  | some 0, d :: ds => ioD d :: ds.map SV.sh
  | some (p + 1), d :: ds => .sh d :: argEnv (some p) ds
def outOf (io : Option Nat) (env : Env) : Option (List D) := match io with
  | none => some []
  | some p => match env[p]? with
    | some (.io es) => some es
    | _ => none
def finS (io : Option Nat) : OS → OC
  | .nx env => match outOf io env with
    | some es => .ret (.sh .non) es
    | none => .bad
  | .ret r env => match outOf io env with
    | some es => .ret r es
    | none => .bad
  | .exc x env => match outOf io env with
    | some es => .exc x es
    | none => .bad
  | _ => .bad
def runF (n : Nat) (io : Option Nat) (body : Env → OS) (ds : List D) : OC := finS io (body (argEnv io ds ++ List.replicate (n - ds.length) SV.no))

theorem argEnv_len : ∀ (io : Option Nat) (ds : List D), (argEnv io ds).length = ds.length
  | none, ds => by simp [argEnv]
  | some _, [] => by simp [argEnv]
  | some 0, d :: ds => by simp [argEnv]
  | some (p + 1), d :: ds => by
    show (argEnv (some p) ds).length + 1 = ds.length + 1
    rw [argEnv_len (some p) ds]
theorem argEnv_sh : ∀ (io : Option Nat) (ds : List D) (i : Nat), io ≠ some i → (argEnv io ds)[i]? = (ds[i]?).map SV.sh
  | none, ds, i, _ => by simp [argEnv]
  | some _, [], i, _ => by simp [argEnv]
  | some 0, d :: ds, 0, h => absurd rfl h
  | some 0, d :: ds, i + 1, _ => by simp [argEnv]
  | some (p + 1), d :: ds, 0, _ => by simp [argEnv]
  | some (p + 1), d :: ds, i + 1, h => by
    have := argEnv_sh (some p) ds i (fun e => h (by cases e; rfl))
    simpa [argEnv] using this
theorem argEnv_io : ∀ (p : Nat) (ds : List D), (argEnv (some p) ds)[p]? = (ds[p]?).map ioD
  | _, [] => by simp [argEnv]
  | 0, d :: ds => by simp [argEnv]
  | p + 1, d :: ds => by
    have := argEnv_io p ds
    simpa [argEnv] using this

structure ArgsOk (G : Gd) (F H : Hp) (io : Option Nat) (ps : List Addr) (vs : List V) (ds : List D) : Prop where
  fh : Ex F H
  len : vs.length = ds.length
  sh : ∀ i d, io ≠ some i → ds[i]? = some d → ∃ v, vs[i]? = some v ∧ Rep G F v d
  ow : ∀ p, io = some p → ∃ a ws es, vs[p]? = some (.ref a) ∧ ds[p]? = some (.lst es) ∧ H a = some (.lst ws) ∧ F a = none ∧ RepL G F ws es ∧ ps = [a]
  nn : io = none → ps = []
structure Bk (G : Gd) (F H : Hp) (ps : List Addr) (out : List D) (F' H' : Hp) : Prop where
  ff : Ex F F'
  fh : Ex F' H'
  keep : ∀ b o, H b = some o → b ∉ ps → H' b = some o
  new : ∀ b o, F' b = some o → F b = none → H b = none
  out : ∀ a ∈ ps, ∃ ws, H' a = some (.lst ws) ∧ F' a = none ∧ RepL G F' ws out
def RetOk (G : Gd) (F' H H' : Hp) (v : V) : R → Prop
  | .sh d => Rep G F' v d
  | .ow ds => ∃ a vs, v = .ref a ∧ H' a = some (.lst vs) ∧ F' a = none ∧ RepL G F' vs ds ∧ H a = none
def ExcOk (G : Gd) (C : PySem.Str → Value → Prop) (F : Hp) (cls : Value) (d : Option Addr) (x : Xc) : Prop :=
  C x.cls cls ∧ (x.bears ≠ [] → ∃ dx vs, d = some dx ∧ F dx = some (.xd ((x.bears.map (·.1)).zip vs)) ∧ RepL G F vs (x.bears.map (·.2)))
def PostC (G : Gd) (C : PySem.Str → Value → Prop) (F H : Hp) (ps : List Addr) (Q : VK) (E : XK) : OC → Prop
  | .ret r out => ∀ v H' F', Bk G F H ps out F' H' → RetOk G F' H H' v r → Q v H'
  | .exc x out => ∀ cls d H' F', Bk G F H ps out F' H' → ExcOk G C F' cls d x → E cls d H'
  | .bad => False
def spF (G : Gd) (C : PySem.Str → Value → Prop) (np : Nat) (io : Option Nat) (f : List D → OC) : Sp := fun vs H Q E => ∃ (F : Hp) (ds : List D) (ps : List Addr), vs.length = np ∧ ArgsOk G F H io ps vs ds ∧ PostC G C F H ps Q E (f ds)

section
variable {G : Gd} {F H : Hp} {io : Option Nat} {ps : List Addr} {vs : List V} {ds : List D} {N : List PySem.Str} {W : WX} {C : PySem.Str → Value → Prop}
theorem start_get {i : Nat} {v : V} (h : vs[i]? = some v) : (L2.start N vs)[i]? = some (some v) := by
  have hl : i < vs.length := (List.getElem?_eq_some_iff.mp h).1
  unfold L2.start
  rw [List.getElem?_append_left (by rw [List.length_map]; exact hl), List.getElem?_map, h]
  rfl
theorem env_get {n i : Nat} {s : SV} (h : (argEnv io ds ++ List.replicate n SV.no)[i]? = some s) (hs : s ≠ .no) : (argEnv io ds)[i]? = some s := by
  by_cases hl : i < (argEnv io ds).length
  · rw [List.getElem?_append_left hl] at h
    exact h
  · rw [List.getElem?_append_right (by omega)] at h
    have := (List.mem_replicate.mp (List.mem_of_getElem? h)).2
    exact absurd this hs
theorem good_start (a : ArgsOk G F H io ps vs ds) : Good ⟨G, F, H, ps, W, C⟩ F (L2.start N vs) H (argEnv io ds ++ List.replicate (N.length - ds.length) SV.no) where
  ff := Ex.refl F
  fh := a.fh
  keep := fun b o h _ => h
  new := fun b o h n => by
    rw [show F b = none from n] at h
    cases h
  len := by
    unfold L2.start
    rw [List.length_append, List.length_append, argEnv_len, List.length_map, List.length_replicate, List.length_replicate, a.len]
  sh := fun i d h => by
    have h := env_get h (by intro z; cases z)
    by_cases e : io = some i
    · subst e
      rw [argEnv_io] at h
      cases q : ds[i]? with
      | none => rw [q] at h; cases h
      | some d0 =>
        rw [q] at h
        cases d0 <;> cases h
    · rw [argEnv_sh io ds i e] at h
      cases q : ds[i]? with
      | none => rw [q] at h; cases h
      | some d0 =>
        rw [q] at h
        cases h
        obtain ⟨v, h1, h2⟩ := a.sh i d e q
        exact ⟨v, start_get h1, h2⟩
  ow := fun i s es h ho => by
    have h := env_get h (by intro z; subst z; cases ho)
    by_cases e : io = some i
    · obtain ⟨b, ws, es', h1, h2, h3, h4, h5, h6⟩ := a.ow i e
      subst e
      rw [argEnv_io, h2] at h
      cases h
      cases ho
      exact ⟨b, ws, start_get h1, h3, h4, h5, .inl (by rw [show (Zd.mk G F H ps W C).ps = ps from rfl, h6]; exact List.mem_singleton.mpr rfl)⟩
    · rw [argEnv_sh io ds i e] at h
      cases q : ds[i]? with
      | none => rw [q] at h; cases h
      | some d0 =>
        rw [q] at h
        cases h
        cases ho
  io := fun i es h => by
    have h := env_get h (by intro z; cases z)
    by_cases e : io = some i
    · obtain ⟨b, ws, es', h1, h2, h3, h4, h5, h6⟩ := a.ow i e
      exact ⟨b, start_get h1, by rw [show (Zd.mk G F H ps W C).ps = ps from rfl, h6]; exact List.mem_singleton.mpr rfl⟩
    · rw [argEnv_sh io ds i e] at h
      cases q : ds[i]? with
      | none => rw [q] at h; cases h
      | some d0 =>
        rw [q] at h
        cases h
  nio := fun i es h b hb => by
    have h := env_get h (by intro z; cases z)
    by_cases e : io = some i
    · obtain ⟨b, ws, es', h1, h2, h3, h4, h5, h6⟩ := a.ow i e
      subst e
      rw [argEnv_io, h2] at h
      cases h
    · rw [argEnv_sh io ds i e] at h
      cases q : ds[i]? with
      | none => rw [q] at h; cases h
      | some d0 =>
        rw [q] at h
        cases h
  pa := fun b hb => by
    cases io with
    | none =>
      have := a.nn rfl
      rw [show (Zd.mk G F H ps W C).ps = ps from rfl, this] at hb
      cases hb
    | some p =>
      obtain ⟨b', ws, es', h1, h2, h3, h4, h5, h6⟩ := a.ow p rfl
      rw [show (Zd.mk G F H ps W C).ps = ps from rfl, h6] at hb
      have : b = b' := List.mem_singleton.mp hb
      subst this
      refine ⟨p, es', ?_, start_get h1⟩
      have hl : p < (argEnv (some p) ds).length := by
        rw [argEnv_len]
        exact (List.getElem?_eq_some_iff.mp h2).1
      rw [List.getElem?_append_left hl, argEnv_io, h2]
      rfl
  dis := fun i j b s t nij ei ej si sj hi hj => by
    have key : ∀ {i s}, (argEnv io ds ++ List.replicate (N.length - ds.length) SV.no)[i]? = some s → (Own s).isSome = true → io = some i := by
      intro i s h ho
      have h := env_get h (by intro z; subst z; cases ho)
      by_cases e : io = some i
      · exact e
      · rw [argEnv_sh io ds i e] at h
        cases q : ds[i]? with
        | none => rw [q] at h; cases h
        | some d0 =>
          rw [q] at h
          cases h
          cases ho
    have e1 := key ei si
    have e2 := key ej sj
    rw [e1] at e2
    exact nij (Option.some.inj e2)
/-- what stands at the end -/
theorem good_end {Z : Zd} (hZ : Z = ⟨G, F, H, ps, W, C⟩) (a : ArgsOk G F H io ps vs ds) {σ' : L2.St} {H' F' : Hp} {env' : Env} {out : List D} (g : Good Z F' σ' H' env') (ho : outOf io env' = some out) : Bk G F H ps out F' H' where
  ff := by
    have := g.ff
    rw [hZ] at this
    exact this
  fh := g.fh
  keep := fun b o h n => g.keep b o (by rw [hZ]; exact h) (by rw [hZ]; exact n)
  new := fun b o h n => by
    have := g.new b o h (by rw [hZ]; exact n)
    rw [hZ] at this
    exact this
  out := fun b hb => by
    cases io with
    | none =>
      rw [a.nn rfl] at hb
      cases hb
    | some p =>
      obtain ⟨b', ws, es', h1, h2, h3, h4, h5, h6⟩ := a.ow p rfl
      rw [h6] at hb
      have : b = b' := List.mem_singleton.mp hb
      subst this
      unfold outOf at ho
      dsimp only at ho
      cases q : env'[p]? with
      | none => rw [q] at ho; cases ho
      | some s =>
        rw [q] at ho
        cases s <;> cases ho
        obtain ⟨c, k1, k2⟩ := g.io p out q
        have hc : c = b := by
          rw [hZ] at k2
          have k2 : c ∈ ps := k2
          rw [h6] at k2
          exact List.mem_singleton.mp k2
        subst hc
        obtain ⟨c', ws', m1, m2, m3, m4, _⟩ := g.ow p _ out q rfl
        rw [k1] at m1
        cases m1
        rw [hZ] at m4
        exact ⟨ws', m2, m3, m4⟩
end

structure RoomX (k : Nat) (X : Cx) : Prop where
  r : Room k X.A
  g : X.A.guards = some []
/-- what a def's body is derived under -/
def InDef (X : Cx) (Z : Zd) : Prop := Takes X Z.W ∧ PassesOwn (model X.prog X.w) X.A X.env X.xe
section
variable {P : Program} {w : World} {K : PySem.W.Frag} {mg : PySem.Str → Option Value} {base : Heap} {k : Nat} {f : Addr} {fd : FuncData} {N ps : List PySem.Str} {C : PySem.Str → Value → Prop}
theorem fnF {x qual : PySem.Str} {params : Arguments} {body : List Stmt} {scope : Scope} {dvs : List V} {kws : List (PySem.Str × V)} (D : FunD K x qual params body scope dvs kws f fd) (S : FnScope N ps scope) (io : Option Nat) {o : Env → OS}
    (h : ∀ (cdv : Value) (A : Around) (outer : List PySem.Env) (s : Shared) (H : Hp) (E : XK) (F0 : Hp) (as : List Addr), RoomX k (cxOf (L2.CX P w) P w K mg base N qual scope f cdv A outer s H E) →
      InDef (cxOf (L2.CX P w) P w K mg base N qual scope f cdv A outer s H E) ⟨⟨K, mg⟩, F0, H, as, fun cls d _ H' => E cls d H', C⟩ →
      PSs (cxOf (L2.CX P w) P w K mg base N qual scope f cdv A outer s H E) body (tS ⟨⟨K, mg⟩, F0, H, as, fun cls d _ H' => E cls d H', C⟩ o)) :
    FnG P w K mg base (k + 1) f fd ps (spF ⟨K, mg⟩ C ps.length io (runF N.length io o)) := by
  refine fnG_of D S (fun vs H Q E h => ?_) fun cdv A outer s H vs Q E hr hg hsp => ?_
  · obtain ⟨_, _, _, h1, _⟩ := h
    exact h1
  · obtain ⟨F0, ds, as, h1, h2, h3⟩ := hsp
    refine ⟨_, h cdv A outer s H E F0 as ⟨hr, hg⟩ ⟨takes_of rfl rfl rfl rfl, passes_of rfl⟩, F0, _, good_start (N := N) h2, ?_⟩
    unfold runF at h3
    cases e : o (argEnv io ds ++ List.replicate (N.length - ds.length) SV.no) with
    | bad => rw [e] at h3; exact h3
    | brk env' => rw [e] at h3; exact h3.elim
    | cnt env' => rw [e] at h3; exact h3.elim
    | nx env' =>
      rw [e] at h3
      unfold finS at h3
      dsimp only at h3
      cases q : outOf io env' with
      | none => rw [q] at h3; exact h3.elim
      | some es =>
        rw [q] at h3
        exact fun σ' H' F' g x => h3 .non H' F' (good_end rfl h2 g q) .non
    | ret r env' =>
      rw [e] at h3
      unfold finS at h3
      dsimp only at h3
      cases q : outOf io env' with
      | none => rw [q] at h3; exact h3.elim
      | some es =>
        rw [q] at h3
        intro v σ' H' F' g x rr
        refine h3 v H' F' (good_end rfl h2 g q) ?_
        cases r with
        | sh d => exact rr
        | ow xs =>
          obtain ⟨a, vs', e1, e2, e3, e4, e5, _⟩ := rr
          exact ⟨a, vs', e1, e2, e3, e4, e5⟩
    | exc x env' =>
      rw [e] at h3
      unfold finS at h3
      dsimp only at h3
      cases q : outOf io env' with
      | none => rw [q] at h3; exact h3.elim
      | some es =>
        rw [q] at h3
        exact fun cls d σ' H' F' g _ rx => h3 cls d H' F' (good_end rfl h2 g q) rx
end
end FE

namespace FE
open PySem PySem.Spec PyProof.Rows L2

/-! ### calls of defs -/
section
variable {Z : Zd} {F F' H H' : Hp} {σ : L2.St} {env : Env} {ps : List Addr} {out : List D}
/-- behind a call: where the caller's own lists were not handed in -/
theorem Good.callee (g : Good Z F σ H env) (b : Bk Z.G F H ps out F' H') (hp : ∀ a ∈ ps, Z.H0 a = none) (hn : ∀ a ∈ ps, ¬ OwnedAt σ env a) : Good Z F' σ H' env where
  ff := g.ff.trans b.ff
  fh := b.fh
  keep := fun a o h n => b.keep a o (g.keep a o h n) (fun q => by rw [hp a q] at h; cases h)
  new := fun a o h n => by
    cases q : F a with
    | some u =>
      have := b.ff a u q
      exact g.new a u q n
    | none => exact g.fresh0 (b.new a o h q)
  len := g.len
  sh := fun i d e => by
    obtain ⟨v, h1, h2⟩ := g.sh i d e
    exact ⟨v, h1, h2.mono b.ff⟩
  ow := fun i s ds e1 e2 => by
    obtain ⟨a, vs, h1, h2, h3, h4, h5⟩ := g.ow i s ds e1 e2
    have na : a ∉ ps := fun q => hn a q ⟨i, s, e1, by rw [e2]; rfl, h1⟩
    refine ⟨a, vs, h1, b.keep a _ h2 na, ?_, h4.mono b.ff, h5⟩
    cases q : F' a with
    | none => rfl
    | some o =>
      rw [b.new a o q h3] at h2
      cases h2
  io := g.io
  nio := g.nio
  pa := g.pa
  dis := g.dis
/-- .. where the list of slot i was -/
theorem Good.calleeS (g : Good Z F σ H env) {i : Nat} {s : SV} {ds : List D} {a : Addr} {env' : Env} (b : Bk Z.G F H [a] out F' H') (hs : env[i]? = some s) (ho : Own s = some ds) (hσ : σ[i]? = some (some (.ref a))) (h : setOwn env i out = some env') : Good Z F' σ H' env' := by
  obtain ⟨a2, vs2, q1, q2, q3, q4, q5⟩ := g.ow i s ds hs ho
  rw [hσ] at q1
  cases q1
  obtain ⟨ws, o1, o2, o3⟩ := b.out a (List.mem_singleton.mpr rfl)
  obtain ⟨s', rfl, hk⟩ : ∃ s', env' = env.set i s' ∧ ((∃ x, s = .ow x ∧ s' = .ow out) ∨ ∃ x, s = .io x ∧ s' = .io out) := by
    unfold setOwn at h
    rw [hs] at h
    cases s with
    | ow x => cases h; exact ⟨_, rfl, .inl ⟨_, rfl, rfl⟩⟩
    | io x => cases h; exact ⟨_, rfl, .inr ⟨_, rfl, rfl⟩⟩
    | no => cases h
    | sh d => cases h
  have hl : i < env.length := (List.getElem?_eq_some_iff.mp hs).1
  have own' : Own s' = some out := by
    rcases hk with ⟨x, _, rfl⟩ | ⟨x, _, rfl⟩ <;> rfl
  have owned : ∀ {j t}, env[j]? = some t → (Own t).isSome = true → j ≠ i → σ[j]? ≠ some (some (.ref a)) := fun {j t} e1 e2 ne => g.dis i j a s t (Ne.symm ne) hs e1 (by rw [ho]; rfl) e2 hσ
  have noF' : ∀ {c : Addr} {u : HO}, F c = none → H c = some u → F' c = none := fun {c u} e1 e2 => by
    cases q : F' c with
    | none => rfl
    | some o =>
      rw [b.new c o q e1] at e2
      cases e2
  refine ⟨g.ff.trans b.ff, b.fh, fun c o e n => ?_, fun c o e n => ?_, by rw [List.length_set]; exact g.len, fun j d e => ?_, fun j t es e eo => ?_, fun j es e => ?_, fun j es e c ec => ?_, fun c hc => ?_, fun j k c t u njk ej ek tj tk hj hk2 => ?_⟩
  · have ne : c ≠ a := fun z => by
      subst z
      rcases q5 with z | z
      · exact n z
      · rw [z] at e
        cases e
    exact b.keep c o (g.keep c o e n) (fun q => ne (List.mem_singleton.mp q))
  · cases q : F c with
    | some u => exact g.new c u q n
    | none => exact g.fresh0 (b.new c o e q)
  · rcases get_set e with ⟨rfl, e2⟩ | ⟨ne, e2⟩
    · rcases hk with ⟨x, _, rfl⟩ | ⟨x, _, rfl⟩ <;> cases e2
    · obtain ⟨v, h1, h2⟩ := g.sh j d e2
      exact ⟨v, h1, h2.mono b.ff⟩
  · rcases get_set e with ⟨rfl, e2⟩ | ⟨ne, e2⟩
    · subst e2
      rw [own'] at eo
      cases eo
      exact ⟨a, ws, hσ, o1, o2, o3, q5⟩
    · obtain ⟨c, ws2, h1, h2, h3, h4, h5⟩ := g.ow j t es e2 eo
      have nb : c ≠ a := fun z => by
        subst z
        exact owned e2 (by rw [eo]; rfl) (Ne.symm ne) h1
      exact ⟨c, ws2, h1, b.keep c _ h2 (fun q => nb (List.mem_singleton.mp q)), noF' h3 h2, h4.mono b.ff, h5⟩
  · rcases get_set e with ⟨rfl, e2⟩ | ⟨ne, e2⟩
    · rcases hk with ⟨x, rfl, rfl⟩ | ⟨x, rfl, rfl⟩
      · cases e2
      · exact g.io i x hs
    · exact g.io j es e2
  · rcases get_set e with ⟨rfl, e2⟩ | ⟨ne, e2⟩
    · rcases hk with ⟨x, rfl, rfl⟩ | ⟨x, rfl, rfl⟩
      · exact g.nio i x hs c ec
      · cases e2
    · exact g.nio j es e2 c ec
  · obtain ⟨j, es, e1, e2⟩ := g.pa c hc
    by_cases ne : i = j
    · subst ne
      rw [hs] at e1
      cases e1
      rcases hk with ⟨x, z, _⟩ | ⟨x, _, rfl⟩
      · cases z
      · exact ⟨i, out, List.getElem?_set_self hl, e2⟩
    · exact ⟨j, es, by rw [List.getElem?_set_ne ne]; exact e1, e2⟩
  · have get : ∀ {j t}, (env.set i s')[j]? = some t → (Own t).isSome = true → ∃ t', env[j]? = some t' ∧ (Own t').isSome = true := fun {j t} e1 e2 => by
      rcases get_set e1 with ⟨rfl, e3⟩ | ⟨_, e3⟩
      · exact ⟨s, hs, by rw [ho]; rfl⟩
      · exact ⟨t, e3, e2⟩
    obtain ⟨t1, a1, a2⟩ := get ej tj
    obtain ⟨t2, a3, a4⟩ := get ek tk
    exact g.dis j k c t1 t2 njk a1 a3 a2 a4 hj hk2
theorem setOwn_own {i : Nat} {env' : Env} (h : setOwn env i out = some env') : ∀ (j : Nat) s, env'[j]? = some s → (Own s).isSome = true → ∃ s', env[j]? = some s' ∧ (Own s').isSome = true := by
  intro j s e1 e2
  unfold setOwn at h
  cases q : env[i]? with
  | none => rw [q] at h; cases h
  | some t =>
    rw [q] at h
    cases t with
    | ow x =>
      cases h
      rcases get_set e1 with ⟨rfl, _⟩ | ⟨_, e3⟩
      · exact ⟨_, q, rfl⟩
      · exact ⟨s, e3, e2⟩
    | io x =>
      cases h
      rcases get_set e1 with ⟨rfl, _⟩ | ⟨_, e3⟩
      · exact ⟨_, q, rfl⟩
      · exact ⟨s, e3, e2⟩
    | no => cases h
    | sh d => cases h
/-- what a call told is a value that has come -/
theorem retOk_rep (g : Good Z F σ H env) {env' : Env} (hs : ∀ (j : Nat) s, env'[j]? = some s → (Own s).isSome = true → ∃ s', env[j]? = some s' ∧ (Own s').isSome = true) {v : V} {r : R} (h : RetOk Z.G F' H H' v r) : RepR Z F' σ env' H' v r := by
  cases r with
  | sh d => exact h
  | ow ds =>
    obtain ⟨a, vs, rfl, h1, h2, h3, h4⟩ := h
    refine ⟨a, vs, rfl, h1, h2, h3, g.fresh0 h4, fun j s e1 e2 e3 => ?_⟩
    obtain ⟨s', k1, k2⟩ := hs j s e1 e2
    exact g.nown h4 j s' k1 k2 e3
end

/-- a def that may be called: n values by place, ks by name; how both are put in order -/
structure Cal (P : Program) (w : World) (K : PySem.W.Frag) (mg : PySem.Str → Option Value) (base : Heap) (k : Nat) (x : PySem.Str) (n : Nat) (ks : List PySem.Str) (gV : List V → List V → List V) (sp : Sp) : Prop where
  ex : ∃ (f : Addr) (fd : FuncData) (ps : List PySem.Str) (g : List Value → List Value → List Value), mg x = some (.ref f) ∧ PySem.W.keepIn K (.ref f) = true ∧ FnG P w K mg base k f fd ps sp ∧ KBn K fd ps n ks g gV
theorem Cal.mono {P : Program} {w : World} {K : PySem.W.Frag} {mg : PySem.Str → Option Value} {base : Heap} {j k : Nat} {x : PySem.Str} {n : Nat} {ks : List PySem.Str} {gV : List V → List V → List V} {sp : Sp} (h : Cal P w K mg base j x n ks gV sp) (l : j ≤ k) : Cal P w K mg base k x n ks gV sp := by
  obtain ⟨f, fd, ps, g, h1, h2, h3, h4⟩ := h.ex
  exact ⟨f, fd, ps, g, h1, h2, h3.mono l, h4⟩
section
variable {X : Cx} {k n : Nat} {ks : List PySem.Str} {sp : Sp} {W : WX} {gV : List V → List V → List V}
def tCallN (n m : Nat) (sp : Sp) (W : WX) (gV : List V → List V → List V) (t tk : TA) : TE := fun σ H Q => t σ H fun vs H1 => tk σ H1 fun zs H2 => vs.length = n ∧ zs.length = m ∧ sp (gV vs zs) H2 Q (fun cls d H' => W cls d σ H')
theorem pe_callN {x : PySem.Str} {p pos : Pos} {e : Expr} {es : List Expr} {kws : List Keyword} {t tk : TA} (c : Cal X.prog X.w X.K X.mg X.base k x n ks gV sp) (hx : RoomX k X) (hgl : Gl X x)
    (tks : Takes X W) (ha : PA X (e :: es) t) (hkw : PK X kws tk) (hall : (backToKw pos (keywordEach kws X.env)).all (·.1.isSome) = true) (hks : (backToKw pos (keywordEach kws X.env)).filterMap (·.1) = ks)
    (hdb : (x == ("__debug__" : PySem.Str)) = false) (he : starEach (e :: es) X.env = (false, eval e X.env) :: starEach es X.env)
    (hpl : ((backTo pos (starEach (e :: es) X.env)).any (·.1) || (backToKw pos (keywordEach kws X.env)).any (·.1.isNone)) = false) :
    PE X (.Call (.Name x p) (e :: es) kws pos) (tCallN n ks.length sp W gV t tk) := by
  obtain ⟨f, fd, ps, g, hm, hk, F, hb⟩ := c.ex
  constructor
  intro pins s σ H Q I h
  refine wpAny_Call_Name_kw (ld_glob I hgl hm ?_ hdb)
  refine PySem.W.callWith_KW (h₀ := X.base) I.ok.mod.kin hk hall (thn (ha.run pos pins s σ H _ I h) ?_) hpl he
  rintro us s1 ⟨vs, H1, I1, r, q⟩
  refine thn (hkw.run pos pins s1 σ H1 _ I1 q) ?_
  rintro ws s2 ⟨zs, H2, I2, rz, l1, l2, q2⟩
  refine ⟨I2.kIn, ?_⟩
  rw [hks]
  have r2 := hb.rel r rz
  have bt := hb.to s2 us ws I2.kIn (r.length.symm.trans l1) (rz.length.symm.trans l2)
  refine wpAny_call (codeAny_mono (F.run X.A X.stack s2 H2 ⟨us, ks.zip ws⟩ (g us ws) (gV vs zs) Q (fun cls d H' => W cls d σ H') hx.r hx.g I2.env0 bt r2 q2) ?_)
  intro r s' hq
  cases r with
  | error e => exact tks e s' (XE.of_call I2 (fun _ _ _ z => z) hq)
  | ok fl =>
    cases fl with
    | ret u => exact I2.after hq
    | next => exact False.elim hq
    | brk => exact False.elim hq
    | cont => exact False.elim hq
end
/-- a call whose values are shared -/
def oCall (f : List D → OC) (n m : Nat) (gD : List D → List D → List D) (oa ok : Env → OA) : Env → OE := fun env => (oa env).bindE fun ds e1 => (ok e1).bindE fun es e2 => if ds.length = n ∧ es.length = m then match f (gD ds es) with
  | .ret r _ => .ok r e2
  | .exc x _ => .exc x e2
  | .bad => .bad
  else .bad
/-- how values are put in order, by data and by values -/
def GRel (np n m : Nat) (gV : List V → List V → List V) (gD : List D → List D → List D) : Prop := ∀ (G : Gd) (F : Hp) (vs zs : List V) (ds es : List D), vs.length = n → zs.length = m → RepL G F vs ds → RepL G F zs es → (gV vs zs).length = np ∧ RepL G F (gV vs zs) (gD ds es)
theorem grel_all (n : Nat) : GRel n n 0 (fun vs _ => vs) (fun ds _ => ds) := fun G F vs zs ds es h1 h2 r1 r2 => ⟨h1, r1⟩
theorem argsOk_all {G : Gd} {F H : Hp} {vs : List V} {ds : List D} (h : Ex F H) (r : RepL G F vs ds) : ArgsOk G F H none [] vs ds where
  fh := h
  len := r.length
  sh := fun i d _ e => r.get e
  ow := fun p e => by cases e
  nn := fun _ => rfl
section
variable {X : Cx} {Z : Zd} {k np n : Nat} {ks : List PySem.Str} {gV : List V → List V → List V} {gD : List D → List D → List D} {f : List D → OC} {oa ok : Env → OA}
theorem PK.imp {X : Cx} {kws : List Keyword} {t t' : TA} (h : PK X kws t) (i : ∀ σ H Q, t' σ H Q → t σ H Q) : PK X kws t' := ⟨fun pos pins s σ H Q I q => h.run pos pins s σ H Q I (i σ H Q q)⟩
theorem n_knil : PK X [] (tA Z oNil) := PK.imp pk_nil fun σ H Q ⟨F, env, g, h⟩ => h [] H F g (Ex.refl F) .nil
theorem n_call {x : PySem.Str} {p pos : Pos} {e : Expr} {es : List Expr} {kws : List Keyword} (c : Cal X.prog X.w X.K X.mg X.base k x n ks gV (spF Z.G Z.C np none f)) (hx : RoomX k X) (tk : Takes X Z.W)
    (gr : GRel np n ks.length gV gD) (ha : PA X (e :: es) (tA Z oa)) (hkw : PK X kws (tA Z ok)) (hgl : Gl X x := by rfl) (hall : (backToKw pos (keywordEach kws X.env)).all (·.1.isSome) = true := by rfl) (hks : (backToKw pos (keywordEach kws X.env)).filterMap (·.1) = ks := by rfl)
    (hdb : (x == ("__debug__" : PySem.Str)) = false := by decide) (he : starEach (e :: es) X.env = (false, eval e X.env) :: starEach es X.env := by rfl)
    (hpl : ((backTo pos (starEach (e :: es) X.env)).any (·.1) || (backToKw pos (keywordEach kws X.env)).any (·.1.isNone)) = false := by rfl) :
    PE X (.Call (.Name x p) (e :: es) kws pos) (tE Z (oCall f n ks.length gD oa ok)) := by
  refine PE.imp (pe_callN c hx hgl tk ha hkw hall hks hdb he hpl) fun σ H Q ⟨F, env, g, h⟩ => ?_
  refine seqAE g h fun ds env1 vs H1 F1 g1 x1 r1 h1 => ?_
  refine seqAE g1 h1 fun es env2 zs H2 F2 g2 x2 r2 h2 => ?_
  split at h2
  case isFalse => exact h2.elim
  rename_i hl
  have l1 : vs.length = n := r1.length.trans hl.1
  have l2 : zs.length = ks.length := r2.length.trans hl.2
  obtain ⟨k1, k2⟩ := gr Z.G F2 vs zs ds es l1 l2 (r1.mono x2) r2
  refine ⟨l1, l2, F2, gD ds es, [], k1, argsOk_all g2.fh k2, ?_⟩
  cases q : f (gD ds es) with
  | bad => rw [q] at h2; exact h2
  | exc x out =>
    rw [q] at h2
    exact fun cls d H' F' b rx => h2 cls d H' F' (g2.callee b (fun a h => by cases h) (fun a h => by cases h)) b.ff rx
  | ret r out =>
    rw [q] at h2
    exact fun v H' F' b rr => h2 v H' F' (g2.callee b (fun a h => by cases h) (fun a h => by cases h)) b.ff (retOk_rep g2 (fun j s e1 e2 => ⟨s, e1, e2⟩) rr)
end
/-! a call that is handed a list to change -/
inductive AD where
  | v (d : D) | slot (i : Nat) | own (ds : List D)
inductive OG where
  | ok (as : List AD) (env : Env) | exc (x : Xc) (env : Env) | bad
def OE.bindG (o : OE) (f : R → Env → OG) : OG := match o with
  | .ok r env => f r env
  | .exc x env => .exc x env
  | .bad => .bad
def OG.bind (o : OG) (f : List AD → Env → OG) : OG := match o with
  | .ok r env => f r env
  | .exc x env => .exc x env
  | .bad => .bad
def OG.bindE (o : OG) (f : List AD → Env → OE) : OE := match o with
  | .ok r env => f r env
  | .exc x env => .exc x env
  | .bad => .bad
def RepA1 (Z : Zd) (F : Hp) (σ : L2.St) (env : Env) (H : Hp) (v : V) : AD → Prop
  | .v d => Rep Z.G F v d
  | .slot i => σ[i]? = some (some v)
  | .own ds => RepR Z F σ env H v (.ow ds)
inductive RepAs (Z : Zd) (F : Hp) (σ : L2.St) (env : Env) (H : Hp) : List V → List AD → Prop
  | nil : RepAs Z F σ env H [] []
  | cons {v : V} {a : AD} {vs : List V} {as : List AD} : RepA1 Z F σ env H v a → RepAs Z F σ env H vs as → RepAs Z F σ env H (v :: vs) (a :: as)
def PostG (Z : Zd) (F : Hp) (σ : L2.St) (Q : List V → Hp → Prop) : OG → Prop
  | .ok as env' => ∀ vs H' F', Good Z F' σ H' env' → Ex F F' → RepAs Z F' σ env' H' vs as → Q vs H'
  | .exc x env' => PostX Z F σ x env'
  | .bad => False
def tG (Z : Zd) (o : Env → OG) : TA := fun σ H Q => ∃ F env, Good Z F σ H env ∧ PostG Z F σ Q (o env)
def oGnil : Env → OG := fun env => .ok [] env
def oGv (oa : Env → OE) (og : Env → OG) : Env → OG := fun env => (oa env).bindG fun r e1 => (og e1).bind fun as e2 => .ok (.v r.fz :: as) e2
def oGs (i : Nat) (og : Env → OG) : Env → OG := fun env => if here env[i]? = true then (og env).bind fun as e2 => .ok (.slot i :: as) e2 else .bad
def oGo (oa : Env → OE) : Env → OG := fun env => (oa env).bindG fun r e1 => match r with
  | .ow ds => .ok [.own ds] e1
  | .sh _ => .bad
def adD (env : Env) : AD → Option D
  | .v d => some d
  | .slot i => match env[i]?.bind Own with
    | some ds => some (.lst ds)
    | none => none
  | .own ds => some (.lst ds)
def adsD (env : Env) : List AD → Option (List D)
  | [] => some []
  | a :: as => match adD env a with
    | some d => match adsD env as with
      | some ds => some (d :: ds)
      | none => none
    | none => none
def adPl (p : Nat) : List AD → Bool
  | [] => true
  | .v _ :: as => match p with
    | 0 => false
    | p + 1 => adPl p as
  | _ :: as => match p with
    | 0 => as.all fun a => match a with
      | .v _ => true
      | _ => false
    | _ + 1 => false
/-- the p-th value is handed in to be changed -/
def oCallP (f : List D → OC) (n p : Nat) (og : Env → OG) : Env → OE := fun env => (og env).bindE fun as e1 => if as.length = n ∧ p < n ∧ adPl p as = true then match adsD e1 as with
  | some ds => match f ds with
    | .bad => .bad
    | .ret r out => match as[p]? with
      | some (.slot i) => match setOwn e1 i out with
        | some e2 => .ok r e2
        | none => .bad
      | _ => .ok r e1
    | .exc x out => match as[p]? with
      | some (.slot i) => match setOwn e1 i out with
        | some e2 => .exc x e2
        | none => .bad
      | _ => .exc x e1
  | none => .bad
  else .bad
theorem adPl_v : ∀ (p : Nat) (as : List AD), adPl p as = true → ∀ i a, as[i]? = some a → i ≠ p → ∃ d, a = .v d
  | _, [], _, i, a, e, _ => by simp at e
  | 0, .v _ :: as, h, _, _, _, _ => by cases h
  | p + 1, .v d :: as, h, 0, a, e, _ => by
    simp at e
    exact ⟨d, e.symm⟩
  | p + 1, .v d :: as, h, i + 1, a, e, ne => adPl_v p as h i a (by simpa using e) (by omega)
  | 0, .slot j :: as, h, 0, a, e, ne => absurd rfl ne
  | 0, .own j :: as, h, 0, a, e, ne => absurd rfl ne
  | 0, .slot j :: as, h, i + 1, a, e, _ => by
    have h : (as.all fun a => match a with
      | .v _ => true
      | _ => false) = true := h
    have := List.all_eq_true.mp h a (List.mem_of_getElem? (by simpa using e))
    cases a with
    | v d => exact ⟨d, rfl⟩
    | slot _ => cases this
    | own _ => cases this
  | 0, .own j :: as, h, i + 1, a, e, _ => by
    have h : (as.all fun a => match a with
      | .v _ => true
      | _ => false) = true := h
    have := List.all_eq_true.mp h a (List.mem_of_getElem? (by simpa using e))
    cases a with
    | v d => exact ⟨d, rfl⟩
    | slot _ => cases this
    | own _ => cases this
  | p + 1, .slot j :: as, h, _, _, _, _ => by cases h
  | p + 1, .own j :: as, h, _, _, _, _ => by cases h
theorem adPl_p : ∀ (p : Nat) (as : List AD), adPl p as = true → ∀ a, as[p]? = some a → ∀ d, a ≠ .v d
  | _, [], _, a, e, _ => by simp at e
  | 0, .v _ :: as, h, _, _, _ => by cases h
  | p + 1, .v d :: as, h, a, e, d' => adPl_p p as h a (by simpa using e) d'
  | 0, .slot j :: as, h, a, e, d => by
    simp at e
    subst e
    exact fun z => by cases z
  | 0, .own j :: as, h, a, e, d => by
    simp at e
    subst e
    exact fun z => by cases z
  | p + 1, .slot j :: as, h, _, _, _ => by cases h
  | p + 1, .own j :: as, h, _, _, _ => by cases h
theorem adsD_len : ∀ {env : Env} {as : List AD} {ds : List D}, adsD env as = some ds → ds.length = as.length
  | _, [], ds, h => by
    cases h
    rfl
  | env, a :: as, ds, h => by
    unfold adsD at h
    cases q : adD env a with
    | none => rw [q] at h; cases h
    | some d =>
      rw [q] at h
      dsimp only at h
      cases q2 : adsD env as with
      | none => rw [q2] at h; cases h
      | some es =>
        rw [q2] at h
        cases h
        simp [adsD_len q2]
theorem adsD_get : ∀ {env : Env} {as : List AD} {ds : List D} {i : Nat} {a : AD}, adsD env as = some ds → as[i]? = some a → ∃ d, ds[i]? = some d ∧ adD env a = some d
  | _, [], ds, i, a, h, e => by simp at e
  | env, a :: as, ds, i, b, h, e => by
    unfold adsD at h
    cases q : adD env a with
    | none => rw [q] at h; cases h
    | some d =>
      rw [q] at h
      dsimp only at h
      cases q2 : adsD env as with
      | none => rw [q2] at h; cases h
      | some es =>
        rw [q2] at h
        cases h
        cases i with
        | zero =>
          simp at e
          subst e
          exact ⟨d, rfl, q⟩
        | succ i =>
          obtain ⟨d', h1, h2⟩ := adsD_get q2 (show as[i]? = some b by simpa using e)
          exact ⟨d', by simpa using h1, h2⟩
section
variable {Z : Zd} {F F' F1 H H' : Hp} {σ : L2.St} {env : Env} {Q : VK} {QA : List V → Hp → Prop}
theorem RepAs.length {vs : List V} {as : List AD} (h : RepAs Z F σ env H vs as) : vs.length = as.length := by
  induction h with
  | nil => rfl
  | cons _ _ ih => simp [ih]
theorem RepAs.get {vs : List V} {as : List AD} (h : RepAs Z F σ env H vs as) : ∀ {i : Nat} {a : AD}, as[i]? = some a → ∃ v, vs[i]? = some v ∧ RepA1 Z F σ env H v a := by
  induction h with
  | nil =>
    intro i a e
    simp at e
  | @cons v b vs as h1 _ ih =>
    intro i a e
    cases i with
    | zero =>
      simp at e
      subst e
      exact ⟨v, rfl, h1⟩
    | succ i =>
      obtain ⟨u, k1, k2⟩ := ih (show as[i]? = some a by simpa using e)
      exact ⟨u, by simpa using k1, k2⟩
theorem PostG.up {o : OG} (e : Ex F F1) (h : PostG Z F σ QA o) : PostG Z F1 σ QA o := by
  cases o with
  | ok r env' => exact fun v H' F' g x => h v H' F' g (e.trans x)
  | exc x env' => exact PostX.up e h
  | bad => exact h
theorem seqGE {o : Env → OG} {f : List AD → Env → OE} {k : List V → Hp → Prop} (g : Good Z F σ H env) (h : PostE Z F σ Q ((o env).bindE f))
    (c : ∀ as env1 vs H1 F1, Good Z F1 σ H1 env1 → Ex F F1 → RepAs Z F1 σ env1 H1 vs as → PostE Z F1 σ Q (f as env1) → k vs H1) : tG Z o σ H k := by
  refine ⟨F, env, g, ?_⟩
  cases e : o env with
  | ok r env1 =>
    rw [e] at h
    exact fun vs H1 F1 g1 x1 r1 => c r env1 vs H1 F1 g1 x1 r1 (PostE.up x1 h)
  | exc x env1 =>
    rw [e] at h
    exact h
  | bad =>
    rw [e] at h
    exact h
theorem seqGG {o : Env → OG} {f : List AD → Env → OG} {k : List V → Hp → Prop} (g : Good Z F σ H env) (h : PostG Z F σ QA ((o env).bind f))
    (c : ∀ as env1 vs H1 F1, Good Z F1 σ H1 env1 → Ex F F1 → RepAs Z F1 σ env1 H1 vs as → PostG Z F1 σ QA (f as env1) → k vs H1) : tG Z o σ H k := by
  refine ⟨F, env, g, ?_⟩
  cases e : o env with
  | ok r env1 =>
    rw [e] at h
    exact fun vs H1 F1 g1 x1 r1 => c r env1 vs H1 F1 g1 x1 r1 (PostG.up x1 h)
  | exc x env1 =>
    rw [e] at h
    exact h
  | bad =>
    rw [e] at h
    exact h
theorem seqEG {o : Env → OE} {f : R → Env → OG} {k : VK} (g : Good Z F σ H env) (h : PostG Z F σ QA ((o env).bindG f))
    (c : ∀ r env1 v H1 F1, Good Z F1 σ H1 env1 → Ex F F1 → RepR Z F1 σ env1 H1 v r → PostG Z F1 σ QA (f r env1) → k v H1) : tE Z o σ H k := by
  refine ⟨F, env, g, ?_⟩
  cases e : o env with
  | ok r env1 =>
    rw [e] at h
    exact fun v H1 F1 g1 x1 r1 => c r env1 v H1 F1 g1 x1 r1 (PostG.up x1 h)
  | exc x env1 =>
    rw [e] at h
    exact h
  | bad =>
    rw [e] at h
    exact h
end
section
variable {X : Cx} {Z : Zd} {a : Expr} {es : List Expr} {oa : Env → OE} {og : Env → OG}
theorem n_gnil : PA X [] (tG Z oGnil) := PA.imp pa_nil fun σ H Q ⟨F, env, g, h⟩ => h [] H F g (Ex.refl F) .nil
theorem n_gv (ha : PE X a (tE Z oa)) (hr : PA X es (tG Z og)) (hs : starEach (a :: es) X.env = (false, eval a X.env) :: starEach es X.env := by rfl) : PA X (a :: es) (tG Z (oGv oa og)) := by
  refine PA.imp (pa_cons ha hr hs) fun σ H Q ⟨F, env, g, h⟩ => ?_
  refine seqEG g h fun r1 env1 v1 H1 F1 g1 x1 rp1 h1 => ?_
  obtain ⟨F2, g2, x2, r2⟩ := g1.give rp1
  refine seqGG g2 (PostG.up x2 h1) fun as env3 vs H3 F3 g3 x3 rp3 h3 => ?_
  exact h3 (v1 :: vs) H3 F3 g3 (Ex.refl F3) (.cons (show Rep Z.G F3 v1 r1.fz from r2.mono x3) rp3)
theorem n_gs (i : Nat) {x : PySem.Str} {pos : Pos} (hr : PA X es (tG Z og)) (hN : X.N[i]? = some x := by rfl) (hv : Vis X.env.scope x := by first | exact Or.inl rfl | exact Or.inr (Or.inl rfl) | exact Or.inr (Or.inr rfl)) (hd : (x == ("__debug__" : PySem.Str)) = false := by decide)
    (hcd : (x == ("__classdict__" : PySem.Str)) = false := by decide) (hs : starEach ((.Name x pos) :: es) X.env = (false, eval (.Name x pos) X.env) :: starEach es X.env := by rfl) : PA X ((.Name x pos) :: es) (tG Z (oGs i og)) := by
  refine PA.imp (pa_cons (pe_var hN hv hd hcd) hr hs) fun σ H Q ⟨F, env, g, h⟩ => ?_
  unfold oGs at h
  split at h
  case isFalse => exact h.elim
  rename_i hh
  obtain ⟨v, hv⟩ := g.here hh
  refine ⟨v, hv, ?_⟩
  refine seqGG g h fun as env3 vs H3 F3 g3 x3 rp3 h3 => ?_
  exact h3 (v :: vs) H3 F3 g3 (Ex.refl F3) (.cons (show σ[i]? = some (some v) from hv) rp3)
theorem n_go (ha : PE X a (tE Z oa)) (hs : starEach [a] X.env = (false, eval a X.env) :: starEach [] X.env := by rfl) : PA X [a] (tG Z (oGo oa)) := by
  refine PA.imp (pa_cons ha pa_nil hs) fun σ H Q ⟨F, env, g, h⟩ => ?_
  refine seqEG g h fun r1 env1 v1 H1 F1 g1 x1 rp1 h1 => ?_
  cases r1 with
  | sh d => exact h1.elim
  | ow ds => exact h1 [v1] H1 F1 g1 (Ex.refl F1) (.cons (show RepR Z F1 σ env1 H1 v1 (.ow ds) from rp1) .nil)
theorem n_callP {k n : Nat} {p : Nat} {f : List D → OC} {x : PySem.Str} {np pos : Pos} {e : Expr} (c : Cal X.prog X.w X.K X.mg X.base k x n [] (fun vs _ => vs) (spF Z.G Z.C n (some p) f)) (hx : RoomX k X) (tk : Takes X Z.W)
    (ha : PA X (e :: es) (tG Z og)) (hgl : Gl X x := by rfl)
    (hdb : (x == ("__debug__" : PySem.Str)) = false := by decide) (he : starEach (e :: es) X.env = (false, eval e X.env) :: starEach es X.env := by rfl)
    (hpl : ((backTo pos (starEach (e :: es) X.env)).any (·.1) || (backToKw pos (keywordEach [] X.env)).any (·.1.isNone)) = false := by rfl) :
    PE X (.Call (.Name x np) (e :: es) [] pos) (tE Z (oCallP f n p og)) := by
  refine PE.imp (pe_callN c hx hgl tk ha pk_nil rfl rfl hdb he hpl) fun σ H Q ⟨F, env, g, h⟩ => ?_
  refine seqGE g h fun as env1 vs H1 F1 g1 x1 r1 h1 => ?_
  split at h1
  case isFalse => exact h1.elim
  rename_i hl
  obtain ⟨hn, hp, hpl2⟩ := hl
  cases q : adsD env1 as with
  | none => rw [q] at h1; exact h1.elim
  | some ds =>
    rw [q] at h1
    dsimp only at h1
    have l1 : vs.length = n := r1.length.trans hn
    have ld := adsD_len q
    obtain ⟨ap, hap⟩ : ∃ ap, as[p]? = some ap := ⟨as[p]'(by omega), List.getElem?_eq_getElem _⟩
    obtain ⟨vp, hvp, rvp⟩ := r1.get hap
    obtain ⟨dp, hdp, hda⟩ := adsD_get q hap
    have shs : ∀ i d, (some p : Option Nat) ≠ some i → ds[i]? = some d → ∃ v, vs[i]? = some v ∧ Rep Z.G F1 v d := by
      intro i d ne e
      have hi : i < as.length := by
        have := (List.getElem?_eq_some_iff.mp e).1
        omega
      obtain ⟨d1, k1⟩ := adPl_v p as hpl2 i as[i] (List.getElem?_eq_getElem hi) (fun z => ne (by rw [z]))
      obtain ⟨v, m1, m2⟩ := r1.get (List.getElem?_eq_getElem hi)
      obtain ⟨d2, m3, m4⟩ := adsD_get q (List.getElem?_eq_getElem hi)
      rw [k1] at m2 m4
      rw [e] at m3
      cases m3
      cases m4
      exact ⟨v, m1, m2⟩
    refine ⟨l1, rfl, ?_⟩
    cases ap with
    | v d => exact absurd rfl (adPl_p p as hpl2 _ hap d)
    | slot i =>
      rw [hap] at h1
      have rvp : σ[i]? = some (some vp) := rvp
      cases qo : env1[i]?.bind Own with
      | none =>
        unfold adD at hda
        dsimp only at hda
        rw [qo] at hda
        cases hda
      | some es0 =>
        unfold adD at hda
        dsimp only at hda
        rw [qo] at hda
        cases hda
        obtain ⟨s, hs, ho⟩ : ∃ s, env1[i]? = some s ∧ Own s = some es0 := by
          cases z : env1[i]? with
          | none => rw [z] at qo; cases qo
          | some s => rw [z] at qo; exact ⟨s, rfl, qo⟩
        obtain ⟨b, ws, b1, b2, b3, b4, b5⟩ := g1.ow i s es0 hs ho
        rw [rvp] at b1
        cases b1
        refine ⟨F1, ds, [b], l1, ⟨g1.fh, by rw [ld]; exact r1.length, shs, fun p' e => ?_, fun z => by cases z⟩, ?_⟩
        · cases e
          exact ⟨b, ws, es0, hvp, hdp, b2, b3, b4, rfl⟩
        · cases qf : f ds with
          | bad => rw [qf] at h1; exact h1
          | ret r out =>
            rw [qf] at h1
            dsimp only at h1
            cases qs : setOwn env1 i out with
            | none => rw [qs] at h1; exact h1.elim
            | some env2 =>
              rw [qs] at h1
              exact fun v H' F' bk rr => h1 v H' F' (g1.calleeS bk hs ho rvp qs) bk.ff (retOk_rep g1 (setOwn_own qs) rr)
          | exc x out =>
            rw [qf] at h1
            dsimp only at h1
            cases qs : setOwn env1 i out with
            | none => rw [qs] at h1; exact h1.elim
            | some env2 =>
              rw [qs] at h1
              exact fun cls d H' F' bk rx => h1 cls d H' F' (g1.calleeS bk hs ho rvp qs) bk.ff rx
    | own es0 =>
      rw [hap] at h1
      obtain ⟨b, ws, rfl, b1, b2, b3, b4, b5⟩ := rvp
      cases hda
      have hno : ∀ a ∈ [b], ¬ OwnedAt σ env1 a := fun a ha => by
        rw [List.mem_singleton.mp ha]
        rintro ⟨i, s, e1, e2, e3⟩
        exact b5 i s e1 e2 e3
      have h0 : ∀ a ∈ [b], Z.H0 a = none := fun a ha => by
        rw [List.mem_singleton.mp ha]
        exact b4
      refine ⟨F1, ds, [b], l1, ⟨g1.fh, by rw [ld]; exact r1.length, shs, fun p' e => ?_, fun z => by cases z⟩, ?_⟩
      · cases e
        exact ⟨b, ws, es0, hvp, hdp, b1, b2, b3, rfl⟩
      · cases qf : f ds with
        | bad => rw [qf] at h1; exact h1
        | ret r out =>
          rw [qf] at h1
          exact fun v H' F' bk rr => h1 v H' F' (g1.callee bk h0 hno) bk.ff (retOk_rep g1 (fun j s e1 e2 => ⟨s, e1, e2⟩) rr)
        | exc x out =>
          rw [qf] at h1
          exact fun cls d H' F' bk rx => h1 cls d H' F' (g1.callee bk h0 hno) bk.ff rx
end
end FE

namespace FE
open PySem PySem.Spec PyProof.Rows L2

/-! ### built-in functions by name, constants -/
section
variable {X : Cx} {Z : Zd} {a b e : Expr} {es : List Expr} {oa ob : Env → OE} {os : Env → OA}
theorem n_cb {id : String} {x : PySem.Str} {p pos : Pos} {r : List V → Hp → VK → Prop} {f : List D → Option R} (hc : CallR X (.builtin id) r) (hs : SCall Z.G r f) (hm : X.mg x = none) (ha : PA X (e :: es) (tA Z os)) (hg : Gl X x := by rfl) (hv : bootBuiltins x = some (.builtin id) := by decide +kernel)
    (hn : x ≠ "__name__" := by decide) (hdb : (x == ("__debug__" : PySem.Str)) = false := by decide) (he : starEach (e :: es) X.env = (false, eval e X.env) :: starEach es X.env := by rfl) (hpl : (backTo pos (starEach es X.env)).any (·.1) = false := by rfl) :
    PE X (.Call (.Name x p) (e :: es) [] pos) (tE Z (oCallB f os)) :=
  PE.imp (pe_callB hc hg hm hv ha hn hdb he hpl) fun σ H Q h => callB_to hs h
theorem n_ct {T : String} {x : PySem.Str} {p pos : Pos} {r : List V → Hp → VK → Prop} {f : List D → Option R} (hc : CallR X (.type T) r) (hs : SCall Z.G r f) (hm : X.mg x = none) (ha : PA X (e :: es) (tA Z os)) (hg : Gl X x := by rfl) (hv : bootBuiltins x = some (.type T) := by decide +kernel)
    (hn : x ≠ "__name__" := by decide) (hdb : (x == ("__debug__" : PySem.Str)) = false := by decide) (he : starEach (e :: es) X.env = (false, eval e X.env) :: starEach es X.env := by rfl) (hpl : (backTo pos (starEach es X.env)).any (·.1) = false := by rfl) :
    PE X (.Call (.Name x p) (e :: es) [] pos) (tE Z (oCallB f os)) :=
  PE.imp (pe_callTy hc hg hm hv ha hn hdb he hpl) fun σ H Q h => callB_to hs h
theorem n_cg {id : String} {x : PySem.Str} {p pos : Pos} {r : List V → Hp → VK → Prop} {f : List D → Option R} (hc : CallR X (.builtin id) r) (hs : SCall Z.G r f) (hm : X.mg x = some (.builtin id)) (ha : PA X (e :: es) (tA Z os)) (hg : Gl X x := by rfl)
    (hdb : (x == ("__debug__" : PySem.Str)) = false := by decide) (he : starEach (e :: es) X.env = (false, eval e X.env) :: starEach es X.env := by rfl) (hpl : (backTo pos (starEach es X.env)).any (·.1) = false := by rfl) :
    PE X (.Call (.Name x p) (e :: es) [] pos) (tE Z (oCallB f os)) :=
  PE.imp (pe_callBfun hc hg hm ha hdb he hpl) fun σ H Q h => callB_to hs h
/-- a module's name for plain data -/
theorem n_gc {x : PySem.Str} {pos : Pos} {v : V} {d : D} (h : ∃ u, X.mg x = some u ∧ RelV v u) (r : ∀ F, Rep Z.G F v d) (hg : Gl X x := by rfl) (hd : (x == ("__debug__" : PySem.Str)) = false := by decide) : PE X (.Name x pos) (tE Z (oC d)) := by
  obtain ⟨u, hm, ru⟩ := h
  exact n_c (pe_glob hg hm ru hd) r

/-! ### slices -/
def cutL {α : Type} (xs : List α) (lo hi : Option Int) : List α := (xs.drop (HT.sIx xs.length 0 lo)).take (HT.sIx xs.length xs.length hi - HT.sIx xs.length 0 lo)
def sliceF : D → Option Int → Option Int → Option R
  | .lst ds, lo, hi => some (.ow (cutL ds lo hi))
  | .tup ds, lo, hi => some (.sh (.tup (cutL ds lo hi)))
  | .str x, lo, hi => if x.length ≤ 1000000 then some (.sh (.str (cutS x lo hi))) else none
  | _, _, _ => none
/-- t[lo:hi]: the whole of it is t itself -/
def rSlN (K : PySem.W.Frag) : V → Option Int → Option Int → Hp → VK → Prop := fun x lo hi H Q => ∃ a xs, x = .ref a ∧ SqT K H a xs ∧
  (HT.sIx xs.length 0 lo = 0 ∧ HT.sIx xs.length xs.length hi = xs.length → Q (.ref a) H) ∧ (¬ (HT.sIx xs.length 0 lo = 0 ∧ HT.sIx xs.length xs.length hi = xs.length) → ∀ (p : Addr) (o : Obj), H p = none → o.dict = none → Q (.ref p) (upd H p (.frz o (.tup (cutV xs lo hi)))))
theorem sl_tupN {X : Cx} : SlR X (rSlN X.K) := by
  intro pins s σ H x v vl vu lo hi sl Q I rx hs pl pu h
  obtain ⟨a, xs, rfl, hx, q1, q2⟩ := h
  cases rx
  obtain ⟨its, r, ht, hz⟩ := I.tuple hx
  have hlen : its.toArray.size = xs.length := by rw [List.size_toArray]; exact r.length.symm
  refine ⟨"tuple", _, PyProof.Rows.slot_tuple_getitem.lookup, ht.typeIs, ?_⟩
  by_cases hw : HT.sIx xs.length 0 lo = 0 ∧ HT.sIx xs.length xs.length hi = xs.length
  · exact getItem_tuple_whole ht hs pl pu (by rw [hlen]; exact hw) ⟨.ref a, H, I, rfl, q1 hw⟩
  · refine HT.getItem_tuple_cut ht hs pl pu (by rw [hlen]; exact hw) ?_ (by rw [hlen]; exact hz)
    rw [hlen]
    refine ⟨.ref s.heap.objs.size, _, I.laid (t' := s.toks) (o := .frz { cls := .type "tuple", data := .seq (List.take (HT.sIx xs.length xs.length hi - HT.sIx xs.length 0 lo) (List.drop (HT.sIx xs.length 0 lo) its.toArray.toList)).toArray } (.tup (cutV xs lo hi))) (fun b ob q => Heap.get?_push_of_some _ q) (Nat.le_refl _) ?_, rfl, q2 hw _ _ (I.hok.fresh (Nat.le_refl _)) rfl⟩
    exact ⟨Heap.get?_push_size _ rfl, Nat.le_trans (cutV_length xs lo hi) hz, _, (r.drop (HT.sIx xs.length 0 lo)).take (HT.sIx xs.length xs.length hi - HT.sIx xs.length 0 lo), IsTup.new _ _⟩
def rSlU (K : PySem.W.Frag) : V → Option Int → Option Int → Hp → VK → Prop := fun x lo hi H Q => rSlL K x lo hi H Q ∨ (fun x lo hi H Q => rSlN K x lo hi H Q ∨ rSlS x lo hi H Q : V → Option Int → Option Int → Hp → VK → Prop) x lo hi H Q
theorem sl_U {X : Cx} : SlR X (rSlU X.K) := sl_list.or (sl_tupN.or sl_str)
theorem RepL.cut {G : Gd} {F : Hp} {vs : List V} {ds : List D} (h : RepL G F vs ds) (lo hi : Option Int) : RepL G F (cutV vs lo hi) (cutL ds lo hi) := by
  unfold cutV cutL
  rw [h.length]
  exact (h.drop _).take _
def SSl (G : Gd) (r : V → Option Int → Option Int → Hp → VK → Prop) (f : D → Option Int → Option Int → Option R) : Prop := ∀ (Z : Zd) (F : Hp) (σ : L2.St) (H : Hp) (env : Env) (x : V) (d : D) (lo hi : Option Int) (z : R) (Q : VK), Z.G = G → Good Z F σ H env → Rep Z.G F x d → f d lo hi = some z →
  (∀ v H' F', Good Z F' σ H' env → Ex F F' → RepR Z F' σ env H' v z → Q v H') → r x lo hi H Q
theorem cut_whole {α : Type} {xs : List α} {lo hi : Option Int} (h : HT.sIx xs.length 0 lo = 0 ∧ HT.sIx xs.length xs.length hi = xs.length) : cutL xs lo hi = xs := by
  unfold cutL
  rw [h.1, h.2, List.drop_zero, Nat.sub_zero, List.take_length]
theorem s_slice {G : Gd} : SSl G (rSlU G.K) sliceF := by
  intro Z F σ H env x d lo hi z Q hG g rx h q
  subst hG
  cases d <;> try cases h
  case lst ds =>
    cases rx with
    | lst h1 h2 =>
      refine .inl ⟨_, _, rfl, (g.fh.lr h1).sq, fun p hp => ?_⟩
      exact q _ _ _ (g.lay hp) (Ex.refl F) (g.mine hp (h2.cut lo hi))
  case tup ds =>
    cases rx with
    | @tup a vs ds h1 h2 =>
      refine .inr (.inl ⟨_, _, rfl, g.fh.t h1.t, fun hw => ?_, fun hw p o hp ho => ?_⟩)
      · have hw' := hw
        rw [h2.length] at hw'
        exact q _ _ F g (Ex.refl F) (show Rep Z.G F (.ref a) (.tup (cutL ds lo hi)) by rw [cut_whole hw']; exact .tup h1 h2)
      · exact q _ _ _ (g.layF hp) (Ex.new (g.fresh hp)) (.tup (.new ho) ((h2.cut lo hi).mono (Ex.new (g.fresh hp))))
  case str y =>
    have h : (if y.length ≤ 1000000 then some (R.sh (.str (cutS y lo hi))) else none) = some z := h
    split at h
    · rename_i c
      cases h
      cases rx
      exact .inr (.inr ⟨y, rfl, Nat.le_trans c big_line, q _ H F g (Ex.refl F) (.str _)⟩)
    · cases h
def oPI (oa : Env → OE) : Env → OE := fun env => (oa env).bind fun r e1 => match r.fz with
  | .int i => .ok (.sh (.int i)) e1
  | _ => .bad
def partO : D → Option (Option Int)
  | .non => some none
  | .int i => some (some i)
  | _ => none
def tP (Z : Zd) (o : Env → OE) : TO := fun σ H Q => tE Z o σ H fun v H1 => ∀ l, ((v = .non ∧ l = none) ∨ ∃ i, v = .int i ∧ l = some i) → Q l H1
theorem PO.imp {X : Cx} {e : Option Expr} {t t' : TO} (h : PO X e t) (i : ∀ σ H Q, t' σ H Q → t σ H Q) : PO X e t' := ⟨fun pins s σ H Q I q => h.run pins s σ H Q I (i σ H Q q)⟩
theorem n_pnone : PO X none (tP Z (oC .non)) := PO.imp po_none fun σ H Q ⟨F, env, g, h⟩ => h .non H F g (Ex.refl F) .non none (.inl ⟨rfl, rfl⟩)
theorem int_of {G : Gd} {F : Hp} {v : V} {b : Int} (h : Rep G F v (.int b)) : v = .int b := by
  cases h
  rfl
theorem non_of {G : Gd} {F : Hp} {v : V} (h : Rep G F v .non) : v = .non := by
  cases h
  rfl
theorem n_psome (ha : PE X a (tE Z oa)) : PO X (some a) (tP Z (oPI oa)) := by
  refine PO.imp (po_some ha) fun σ H Q ⟨F, env, g, h⟩ => ?_
  refine seqE (Q := fun v H1 => ∀ l, ((v = .non ∧ l = none) ∨ ∃ i, v = .int i ∧ l = some i) → Q l H1) g h fun r env1 v H1 F1 g1 x1 r1 h1 => ?_
  generalize r.fz = d at h1 r1
  cases d <;> try exact h1.elim
  rename_i i
  obtain rfl := int_of r1
  exact ⟨i, rfl, h1 (.int i) H1 F1 g1 (Ex.refl F1) (.int i) (some i) (.inr ⟨i, rfl, rfl⟩)⟩
def oSl (f : D → Option Int → Option Int → Option R) (oa ol oh : Env → OE) : Env → OE := fun env => (oa env).bind fun r1 e1 => (ol e1).bind fun r2 e2 => (oh e2).bind fun r3 e3 => match partO r2.fz, partO r3.fz with
  | some l, some h => match f r1.fz l h with
    | some z => .ok z e3
    | none => .bad
  | _, _ => .bad
/-- a part comes -/
theorem seqP {F H : Hp} {σ : L2.St} {env : Env} {Q : VK} {o : Env → OE} {f : R → Env → OE} {k : Option Int → Hp → Prop} (g : Good Z F σ H env) (h : PostE Z F σ Q ((o env).bind f))
    (c : ∀ r env1 l H1 F1, Good Z F1 σ H1 env1 → Ex F F1 → (∀ l', partO r.fz = some l' → l' = l) → PostE Z F1 σ Q (f r env1) → k l H1) : tP Z o σ H k := by
  refine seqE g h fun r env1 v H1 F1 g1 x1 r1 h1 l hl => ?_
  refine c r env1 l H1 F1 g1 x1 (fun l' e => ?_) h1
  generalize r.fz = d at e r1
  cases d <;> cases e
  · obtain rfl := non_of r1
    rcases hl with ⟨_, rfl⟩ | ⟨i, z, _⟩
    · rfl
    · cases z
  · obtain rfl := int_of r1
    rcases hl with ⟨z, _⟩ | ⟨i, z, rfl⟩
    · cases z
    · cases z
      rfl
theorem n_slice {r : V → Option Int → Option Int → Hp → VK → Prop} {f : D → Option Int → Option Int → Option R} {lo hi : Option Expr} {ol oh : Env → OE} {p2 pos : Pos} (hr : SlR X r) (hs : SSl Z.G r f) (ha : PE X a (tE Z oa)) (hl : PO X lo (tP Z ol)) (hh : PO X hi (tP Z oh)) :
    PE X (.Subscript a (.Slice lo hi none p2) pos) (tE Z (oSl f oa ol oh)) := by
  refine PE.imp (pe_slice hr ha hl hh) fun σ H Q ⟨F, env, g, h⟩ => ?_
  refine seqE g h fun r1 env1 v1 H1 F1 g1 x1 rp1 h1 => ?_
  refine seqP g1 h1 fun r2 env2 l H2 F2 g2 x2 e2 h2 => ?_
  refine seqP g2 h2 fun r3 env3 u H3 F3 g3 x3 e3 h3 => ?_
  cases q2 : partO r2.fz with
  | none => rw [q2] at h3; exact h3.elim
  | some l' =>
    cases q3 : partO r3.fz with
    | none => rw [q2, q3] at h3; exact h3.elim
    | some u' =>
      rw [q2, q3] at h3
      obtain rfl := e2 _ q2
      obtain rfl := e3 _ q3
      dsimp only at h3
      cases q : f r1.fz l' u' with
      | none => rw [q] at h3; exact h3.elim
      | some z =>
        rw [q] at h3
        exact hs Z F3 σ H3 env3 v1 _ l' u' z Q rfl g3 (rp1.mono (x2.trans x3)) q h3
/-! a slice of a list with a step -/
def pickL {α : Type} (xs : List α) (lo hi st : Option Int) : List α := (sliceRange (sliceBounds lo hi st xs.length).1 (sliceBounds lo hi st xs.length).2.1 (sliceBounds lo hi st xs.length).2.2).filterMap (xs[·]?)
theorem RepL.picks {G : Gd} {F : Hp} {vs : List V} {ds : List D} (h : RepL G F vs ds) : ∀ is : List Nat, RepL G F (is.filterMap (vs[·]?)) (is.filterMap (ds[·]?))
  | [] => .nil
  | i :: is => by
    rw [List.filterMap_cons, List.filterMap_cons]
    cases q : ds[i]? with
    | none =>
      have : vs[i]? = none := by
        rw [List.getElem?_eq_none_iff, h.length]
        exact List.getElem?_eq_none_iff.mp q
      rw [this]
      exact RepL.picks h is
    | some d =>
      obtain ⟨v, h1, h2⟩ := h.get q
      rw [h1]
      exact .cons h2 (RepL.picks h is)
theorem RepL.pick {G : Gd} {F : Hp} {vs : List V} {ds : List D} (h : RepL G F vs ds) (lo hi st : Option Int) : RepL G F (pickL vs lo hi st) (pickL ds lo hi st) := by
  unfold pickL
  rw [h.length]
  exact h.picks _
theorem vals_picks {vs : List V} {us : List Value} (h : Vals vs us) : ∀ is : List Nat, Vals (is.filterMap (vs[·]?)) (is.filterMap (us[·]?))
  | [] => .nil
  | i :: is => by
    rw [List.filterMap_cons, List.filterMap_cons]
    cases q : vs[i]? with
    | none =>
      have : us[i]? = none := by
        rw [List.getElem?_eq_none_iff, ← h.length]
        exact List.getElem?_eq_none_iff.mp q
      rw [this]
      exact vals_picks h is
    | some d =>
      obtain ⟨v, h1, h2⟩ := h.get q
      rw [h1]
      exact .cons h2 (vals_picks h is)
def tSl3 (K : PySem.W.Frag) (te : TE) (tl th ts : TO) : TE := fun σ H Q => te σ H fun x H1 => tl σ H1 fun l H2 => th σ H2 fun u H3 => ts σ H3 fun c H4 => c ≠ some 0 ∧ ∃ a xs, x = .ref a ∧ SqL K H4 a xs ∧ ∀ p, H4 p = none → Q (.ref p) (upd H4 p (.lst (pickL xs l u c)))
theorem pe_slice3 {te : TE} {tl th ts : TO} {lo hi : Option Expr} {sc : Expr} {p2 pos : Pos} (he : PE X e te) (hl : PO X lo tl) (hu : PO X hi th) (hs : PO X (some sc) ts) : PE X (.Subscript e (.Slice lo hi (some sc) p2) pos) (tSl3 X.K te tl th ts) := by
  constructor
  intro pins s σ H Q I h
  apply Subscript_
  refine thn (he.run pins s σ H _ I h) ?_
  rintro v s1 ⟨x, H1, I1, r1, q1⟩
  apply wpAny_Slice
  refine thn (hl.run pins s1 σ H1 _ I1 q1) ?_
  rintro vl s2 ⟨l, H2, I2, pl, q2⟩
  refine thn (hu.run pins s2 σ H2 _ I2 q2) ?_
  rintro vu s3 ⟨u, H3, I3, pu, q3⟩
  refine thn (hs.run pins s3 σ H3 _ I3 q3) ?_
  rintro vc s4 ⟨c, H4, I4, pc, hc, a, xs, rfl, hx, q4⟩
  have grown : ∀ (b : Addr) (ob : Obj), s4.heap.get? b = some ob → (s4.heap.push { cls := .type "slice", data := .fields #[vl, vu, vc] }).get? b = some ob := fun b ob z => Heap.get?_push_of_some _ z
  have I5 : Inv X pins σ H4 ⟨s4.heap.push { cls := .type "slice", data := .fields #[vl, vu, vc] }, s4.gens, s4.drawn, s4.toks, s4.os⟩ := I4.kept (t' := s4.toks) grown
  cases r1
  obtain ⟨its, r, ht, hz⟩ := I5.list hx
  have hlen := r.length
  refine tail_any (T := "list") (ops := [.ref a, .ref s4.heap.objs.size]) ht.isList.typeIs slot_list_getitem.lookup ?_ (by with_unfolding_all rfl)
  have hlz : its.toArray.size ≤ sizeLine := by
    rw [List.size_toArray]
    omega
  refine wpAny_getItem_list_slice ht.isList (Heap.IsSliceOf.new ..) pl pu pc hc ?_ hlz
  have ek : (slicePick its.toArray l u c) = (pickL its l u c).toArray := by
    unfold slicePick pickL
    simp only [List.size_toArray, List.getElem?_toArray]
  have vk : Vals (pickL xs l u c) (pickL its l u c) := by
    unfold pickL
    rw [hlen]
    exact vals_picks r _
  rw [ek]
  have sz := slicePick_size_le its.toArray l u c
  rw [ek, List.size_toArray, List.size_toArray] at sz
  refine ⟨.ref _, _, I5.laid (t' := s4.toks) (o := .lst (pickL xs l u c)) (fun b ob z => Heap.get?_push_of_some _ z) (Nat.le_refl _) ?_, rfl, q4 _ (I5.hok.fresh (Nat.le_refl _))⟩
  refine ⟨?_, _, 0, vk, Heap.get?_push_size _ rfl⟩
  rw [vk.length]
  omega
def oSl3 (oa ol oh oc : Env → OE) : Env → OE := fun env => (oa env).bind fun r1 e1 => (ol e1).bind fun r2 e2 => (oh e2).bind fun r3 e3 => (oc e3).bind fun r4 e4 => match r1.fz, partO r2.fz, partO r3.fz, partO r4.fz with
  | .lst ds, some l, some h, some c => if c = some 0 then .bad else .ok (.ow (pickL ds l h c)) e4
  | _, _, _, _ => .bad
theorem n_slice3 {lo hi : Option Expr} {sc : Expr} {ol oh oc : Env → OE} {p2 pos : Pos} (hK : Z.G.K = X.K) (ha : PE X a (tE Z oa)) (hl : PO X lo (tP Z ol)) (hh : PO X hi (tP Z oh)) (hc : PO X (some sc) (tP Z oc)) : PE X (.Subscript a (.Slice lo hi (some sc) p2) pos) (tE Z (oSl3 oa ol oh oc)) := by
  refine PE.imp (pe_slice3 ha hl hh hc) fun σ H Q ⟨F, env, g, h⟩ => ?_
  refine seqE g h fun r1 env1 v1 H1 F1 g1 x1 rp1 h1 => ?_
  refine seqP g1 h1 fun r2 env2 l H2 F2 g2 x2 e2 h2 => ?_
  refine seqP g2 h2 fun r3 env3 u H3 F3 g3 x3 e3 h3 => ?_
  refine seqP g3 h3 fun r4 env4 c H4 F4 g4 x4 e4 h4 => ?_
  generalize r1.fz = d at h4 rp1
  cases d <;> try exact h4.elim
  rename_i ds
  cases q2 : partO r2.fz with
  | none => rw [q2] at h4; exact h4.elim
  | some l' =>
    cases q3 : partO r3.fz with
    | none => rw [q2, q3] at h4; exact h4.elim
    | some u' =>
      cases q4 : partO r4.fz with
      | none => rw [q2, q3, q4] at h4; exact h4.elim
      | some c' =>
        rw [q2, q3, q4] at h4
        obtain rfl := e2 _ q2
        obtain rfl := e3 _ q3
        obtain rfl := e4 _ q4
        dsimp only at h4
        split at h4
        · exact h4.elim
        · rename_i hc0
          cases rp1 with
          | lst k1 k2 =>
            refine ⟨hc0, _, _, rfl, ?_, fun p hp => h4 _ _ _ (g4.lay hp) (Ex.refl F4) (g4.mine hp ((k2.pick l' u' c').mono (x2.trans (x3.trans x4))))⟩
            rw [← hK]
            exact (g4.fh.lr ((x2.trans (x3.trans x4)).lr k1)).sq
end
end FE

namespace FE
open PySem PySem.Spec PyProof.Rows L2

/-! ### zip, reversed -/
theorem zip_get : ∀ (ds es : List D) (k : Nat) (x : D), (zipD ds es)[k]? = some x → ∃ d e, ds[k]? = some d ∧ es[k]? = some e ∧ x = .wtp [d, e]
  | [], _, _, _, h => by simp [zipD] at h
  | _ :: _, [], _, _, h => by simp [zipD] at h
  | d :: ds, e :: es, 0, x, h => by
    simp [zipD] at h
    exact ⟨d, e, rfl, rfl, h.symm⟩
  | d :: ds, e :: es, k + 1, x, h => by
    obtain ⟨d', e', h1, h2, h3⟩ := zip_get ds es k x (by simpa [zipD] using h)
    exact ⟨d', e', by simpa using h1, by simpa using h2, h3⟩
theorem zip_len : ∀ (ds es : List D), (zipD ds es).length = min ds.length es.length
  | [], _ => by simp [zipD]
  | _ :: _, [] => by simp [zipD]
  | d :: ds, e :: es => by simp [zipD, zip_len ds es]
section
variable {G : Gd} {F : Hp}
theorem it_zip {a b : Addr} {vs ws : List V} {ds es : List D} (h : Lr G.K F a vs) (r : RepL G F vs ds) (h' : Lr G.K F b ws) (r' : RepL G F ws es) : ItRep G (Itz G.K a b) F (zipD ds es) where
  go := fun k F1 H1 e1 e2 hk => by
    rw [zip_len] at hk
    obtain ⟨v, hv, _⟩ := r.get (List.getElem?_eq_getElem (show k < ds.length by omega))
    obtain ⟨w, hw, _⟩ := r'.get (List.getElem?_eq_getElem (show k < es.length by omega))
    exact ⟨vs, ws, v, w, ((e1.trans e2).lr h).sq, ((e1.trans e2).lr h').sq, hv, hw⟩
  stop := fun k F1 H1 e1 e2 hk => by
    rw [zip_len] at hk
    refine ⟨vs, ws, ((e1.trans e2).lr h).sq, ((e1.trans e2).lr h').sq, ?_⟩
    rw [r.length, r'.length]
    omega
  yld := fun k d F1 H1 x H2 e1 e2 hd hy => by
    obtain ⟨T, x', y', rfl, hT, rfl, f1, f2⟩ := hy
    obtain ⟨d1, d2, g1, g2, rfl⟩ := zip_get ds es k d hd
    obtain ⟨v, hv, rv⟩ := r.get g1
    obtain ⟨w, hw, rw'⟩ := r'.get g2
    have z1 := f1 vs ((e1.trans e2).lr h).sq
    have z2 := f2 ws ((e1.trans e2).lr h').sq
    rw [hv] at z1
    rw [hw] at z2
    cases z1
    cases z2
    have fT : F1 T = none := by
      cases q : F1 T with
      | none => rfl
      | some o =>
        rw [e2 T o q] at hT
        cases hT
    exact .inr ⟨T, _, hT, rfl, .wtp (.inl (.inl upd_same)) (.cons ((rv.mono e1).mono (Ex.new fT)) (.cons ((rw'.mono e1).mono (Ex.new fT)) .nil))⟩
theorem it_zipT {a b : Addr} {vs ws : List V} {ds es : List D} (h : SqT G.K F a vs) (r : RepL G F vs ds) (h' : SqT G.K F b ws) (r' : RepL G F ws es) : ItRep G (RZ.ItzT G.K a b) F (zipD ds es) where
  go := fun k F1 H1 e1 e2 hk => by
    rw [zip_len] at hk
    obtain ⟨v, hv, _⟩ := r.get (List.getElem?_eq_getElem (show k < ds.length by omega))
    obtain ⟨w, hw, _⟩ := r'.get (List.getElem?_eq_getElem (show k < es.length by omega))
    exact ⟨vs, ws, v, w, (e1.trans e2).t h, (e1.trans e2).t h', hv, hw⟩
  stop := fun k F1 H1 e1 e2 hk => by
    rw [zip_len] at hk
    refine ⟨vs, ws, (e1.trans e2).t h, (e1.trans e2).t h', ?_⟩
    rw [r.length, r'.length]
    omega
  yld := fun k d F1 H1 x H2 e1 e2 hd hy => by
    obtain ⟨T, x', y', rfl, hT, rfl, f1, f2⟩ := hy
    obtain ⟨d1, d2, g1, g2, rfl⟩ := zip_get ds es k d hd
    obtain ⟨v, hv, rv⟩ := r.get g1
    obtain ⟨w, hw, rw'⟩ := r'.get g2
    have z1 := f1 vs ((e1.trans e2).t h)
    have z2 := f2 ws ((e1.trans e2).t h')
    rw [hv] at z1
    rw [hw] at z2
    cases z1
    cases z2
    have fT : F1 T = none := by
      cases q : F1 T with
      | none => rfl
      | some o =>
        rw [e2 T o q] at hT
        cases hT
    exact .inr ⟨T, _, hT, rfl, .wtp (.inl (.inl upd_same)) (.cons ((rv.mono e1).mono (Ex.new fT)) (.cons ((rw'.mono e1).mono (Ex.new fT)) .nil))⟩
theorem rev_get {α : Type} {xs : List α} {k : Nat} {x : α} (h : xs.reverse[k]? = some x) : k < xs.length ∧ xs[xs.length - 1 - k]? = some x := by
  have hk : k < xs.length := by
    have := (List.getElem?_eq_some_iff.mp h).1
    rw [List.length_reverse] at this
    exact this
  rw [List.getElem?_reverse hk] at h
  exact ⟨hk, h⟩
theorem it_rev {a : Addr} {vs : List V} {ds : List D} (h : Lr G.K F a vs) (r : RepL G F vs ds) : ItRep G (Itv G.K a vs.length) F ds.reverse where
  go := fun k F1 H1 e1 e2 hk => by
    rw [List.length_reverse, ← r.length] at hk
    refine ⟨hk, vs, vs[vs.length - 1 - k]'(by omega), ((e1.trans e2).lr h).sq, List.getElem?_eq_getElem _⟩
  stop := fun k F1 H1 e1 e2 hk => by
    rw [List.length_reverse, ← r.length] at hk
    exact hk
  yld := fun k d F1 H1 x H2 e1 e2 hd hy => by
    obtain ⟨rfl, f⟩ := hy
    obtain ⟨h1, h2⟩ := rev_get hd
    obtain ⟨v, hv, rv⟩ := r.get h2
    have := f vs ((e1.trans e2).lr h).sq
    rw [r.length, hv] at this
    cases this
    exact .inl ⟨rfl, rv.mono e1⟩
theorem it_revT {a : Addr} {vs : List V} {ds : List D} (h : SqT G.K F a vs) (r : RepL G F vs ds) : ItRep G (RT.ItvT G.K a vs.length) F ds.reverse where
  go := fun k F1 H1 e1 e2 hk => by
    rw [List.length_reverse, ← r.length] at hk
    refine ⟨hk, vs, vs[vs.length - 1 - k]'(by omega), (e1.trans e2).t h, List.getElem?_eq_getElem _⟩
  stop := fun k F1 H1 e1 e2 hk => by
    rw [List.length_reverse, ← r.length] at hk
    exact hk
  yld := fun k d F1 H1 x H2 e1 e2 hd hy => by
    obtain ⟨rfl, f⟩ := hy
    obtain ⟨h1, h2⟩ := rev_get hd
    obtain ⟨v, hv, rv⟩ := r.get h2
    have := f vs ((e1.trans e2).t h)
    rw [r.length, hv] at this
    cases this
    exact .inl ⟨rfl, rv.mono e1⟩
end
def iZp (os : Env → OA) : Env → OI := fun env => (os env).bindI fun ds e1 => match ds with
  | [.lst ds, .lst es] => .ok (zipD ds es) e1
  | [.tup ds, .tup es] => .ok (zipD ds es) e1
  | _ => .bad
def iRv (oa : Env → OE) : Env → OI := fun env => (oa env).bindI fun r e1 => match r.fz with
  | .lst ds => .ok ds.reverse e1
  | .tup ds => .ok ds.reverse e1
  | _ => .bad
def sPar (i j : Nat) (os : Env → OA) : Env → OS := fun env => match os env with
  | .ok [d, e] e1 => if noIo e1[i]? = true ∧ noIo e1[j]? = true then .nx ((e1.set i (.sh d)).set j (.sh e)) else .bad
  | .exc x e1 => .exc x e1
  | _ => .bad
def itemsL : D → Option (List D)
  | .lst ds => some ds
  | .tup ds => some ds
  | _ => none
def joinF (a : PySem.Str) (d : D) : Option R := match itemsL d with
  | some ds => match strsD ds with
    | some ys => if (ys.map (·.length)).sum + ys.length * a.length ≤ 16777216 then some (.sh (.str (Txt.join a ys))) else none
    | none => none
  | none => none
def joinG (r : R) (ob : Env → OE) (e1 : Env) : OE := match r.fz with
  | .str a => (ob e1).bind fun r2 e2 => match joinF a r2.fz with
    | some z => .ok z e2
    | none => .bad
  | _ => .bad
def oJoin (oa ob : Env → OE) : Env → OE := fun env => (oa env).bind fun r1 e1 => joinG r1 ob e1
section
variable {X : Cx} {Z : Zd} {a b tg : Expr} {oa ob : Env → OE} {os : Env → OA} {p pos tpos : Pos} {elts : List Expr} {kk : Nat}
theorem n_zip (hm : X.mg "zip" = none) (hK : Z.G.K = X.K) (ha : PA X [a, b] (tA Z os)) (hg : Gl X "zip" := by rfl) (hs : starEach [a, b] X.env = (false, eval a X.env) :: starEach [b] X.env := by rfl) (hpl : (backTo pos (starEach [b] X.env)).any (·.1) = false := by rfl) :
    PI X (.Tuple elts kk tpos) (.Call (.Name "zip" p) [a, b] [] pos) (tI Z (iZp os)) := by
  refine PI.imp (RZ.pi_zipA hg hm ha hs hpl) fun σ H Q ⟨F, env, g, h⟩ => ?_
  refine seqAI g h fun ds env1 vs H1 F1 g1 x1 r1 h1 => ?_
  rw [← hK]
  split at h1
  · obtain ⟨v, w, rfl, rv, rw'⟩ := r1.two
    cases rv with
    | lst l1 l2 =>
      cases rw' with
      | lst m1 m2 => exact ⟨_, _, _, _, rfl, .inl ⟨(g1.fh.lr l1).sq, (g1.fh.lr m1).sq, h1 _ H1 F1 g1 (Ex.refl F1) (it_zip l1 l2 m1 m2)⟩⟩
  · obtain ⟨v, w, rfl, rv, rw'⟩ := r1.two
    cases rv with
    | tup l1 l2 =>
      cases rw' with
      | tup m1 m2 => exact ⟨_, _, _, _, rfl, .inr ⟨g1.fh.t l1.t, g1.fh.t m1.t, h1 _ H1 F1 g1 (Ex.refl F1) (it_zipT l1.t l2 m1.t m2)⟩⟩
  · exact h1.elim
theorem n_rev (hm : X.mg "reversed" = none) (hK : Z.G.K = X.K) (ha : PE X a (tE Z oa)) (hg : Gl X "reversed" := by rfl) (hs : starEach [a] X.env = (false, eval a X.env) :: starEach [] X.env := by rfl) : PI X tg (.Call (.Name "reversed" p) [a] [] pos) (tI Z (iRv oa)) := by
  refine PI.imp (RT.pi_revA hg hm ha hs) fun σ H Q ⟨F, env, g, h⟩ => ?_
  refine seqEI g h fun r env1 v H1 F1 g1 x1 r1 h1 => ?_
  rw [← hK]
  generalize r.fz = d at h1 r1
  cases d <;> try exact h1.elim
  · cases r1 with
    | tup l1 l2 => exact ⟨_, _, rfl, .inr ⟨g1.fh.t l1.t, h1 _ H1 F1 g1 (Ex.refl F1) (it_revT l1.t l2)⟩⟩
  · cases r1 with
    | lst l1 l2 => exact ⟨_, _, rfl, .inl ⟨(g1.fh.lr l1).sq, h1 _ H1 F1 g1 (Ex.refl F1) (it_rev l1 l2)⟩⟩
theorem n_par (i j : Nat) {x y : PySem.Str} {px py pt pt2 : Pos} {kt k2} (hN : X.N.Nodup) (ha : PA X [a, b] (tA Z os)) (hw : swappedStores [.Tuple [.Name x px, .Name y py] kt pt] (.Tuple [a, b] k2 pt2) X.env = pure (some [x, y])) (hc : X.calm = true := by rfl) (hi : X.N[i]? = some x := by rfl) (hj : X.N[j]? = some y := by rfl) (hij : i ≠ j := by decide)
    (hx : X.env.scope.names.lookup x = some .local := by rfl) (hy : X.env.scope.names.lookup y = some .local := by rfl)
    (hs : swapsWithSole [.Tuple [.Name x px, .Name y py] kt pt] (.Tuple [a, b] k2 pt2) pos.line X.env = pure false := by rfl) :
    PS X (.Assign [.Tuple [.Name x px, .Name y py] kt pt] (.Tuple [a, b] k2 pt2) pos) (tS Z (sPar i j os)) := by
  refine PS.imp (ps_par hc hN hi hj hij hx hy ha hw hs) fun Dn σ H ⟨F, env, g, h⟩ => ⟨F, env, g, ?_⟩
  unfold sPar at h
  cases e : os env with
  | bad => rw [e] at h; exact h.elim
  | exc x e1 => rw [e] at h; exact PostXS.at h
  | ok ds e1 =>
    rw [e] at h
    intro vs H1 F1 g1 x1 r1
    split at h
    · rename_i d e' e1' q
      cases q
      split at h
      · rename_i c
        obtain ⟨v, w, rfl, rv, rw'⟩ := r1.two
        refine ⟨v, w, rfl, ?_⟩
        have g2 := g1.asg (i := i) (v := v) (r := .sh d) rv c.1
        have c2 : noIo (e1.set i (.sh d))[j]? = true := noIo_set c.2 rfl
        have g3 := g2.asg (i := j) (v := w) (r := .sh e') rw' c2
        exact h _ H1 F1 g3 x1
      · exact h.elim
    · rename_i q
      cases q
    · exact h.elim
theorem n_join {apos pos : Pos} (hK : Z.G.K = X.K) (ha : PE X a (tE Z oa)) (hb : PE X b (tE Z ob)) (hs : starEach [b] X.env = [(false, eval b X.env)] := by rfl) (hbase : attributeBase a "join" X.env (eval a X.env) = eval a X.env := by rfl) (hline : (apos.endLine == pos.line) = true := by rfl) :
    PE X (.Call (.Attribute a "join" apos) [b] [] pos) (tE Z (oJoin oa ob)) := by
  refine PE.imp (pe_join ha hb hs hbase hline) fun σ H Q ⟨F, env, g, h⟩ => ?_
  refine seqE g h fun r1 env1 v1 H1 F1 g1 x1 rp1 h1 => ?_
  unfold joinG at h1
  generalize r1.fz = d at h1 rp1
  rw [← hK]
  cases d <;> try exact h1.elim
  rename_i z
  cases rp1
  refine ⟨⟨z, rfl⟩, ?_⟩
  refine seqE g1 h1 fun r2 env2 v2 H2 F2 g2 x2 rp2 h2 => ?_
  generalize r2.fz = d2 at h2 rp2
  unfold joinF at h2
  cases qi : itemsL d2 with
  | none => rw [qi] at h2; exact h2.elim
  | some ds =>
    rw [qi] at h2
    dsimp only at h2
    cases q : strsD ds with
    | none => rw [q] at h2; exact h2.elim
    | some ys =>
      rw [q] at h2
      dsimp only at h2
      split at h2
      case h_2 _ qq =>
        split at qq
        · cases qq
        · exact h2.elim
      rename_i z' qq
      split at qq
      case isFalse => cases qq
      rename_i c
      cases qq
      cases d2 <;> cases qi
      · cases rp2 with
        | tup k1 k2 =>
          have := k2.strs q
          subst this
          exact ⟨z, _, ys, rfl, rfl, .inr (g2.fh.t k1.t), c, h2 _ H2 F2 g2 (Ex.refl F2) (.str _)⟩
      · cases rp2 with
        | lst k1 k2 =>
          have := k2.strs q
          subst this
          exact ⟨z, _, ys, rfl, rfl, .inl (g2.fh.lr k1).sq, c, h2 _ H2 F2 g2 (Ex.refl F2) (.str _)⟩
theorem n_lenV (i : Nat) {x : PySem.Str} {px : Pos} (hm : X.mg "len" = none) (hK : Z.G.K = X.K) (hN : X.N[i]? = some x := by rfl) (hv : Vis X.env.scope x := by first | exact Or.inl rfl | exact Or.inr (Or.inl rfl) | exact Or.inr (Or.inr rfl)) (hd : (x == ("__debug__" : PySem.Str)) = false := by decide)
    (hcd : (x == ("__classdict__" : PySem.Str)) = false := by decide) (hg : Gl X "len" := by rfl) (he : starEach [.Name x px] X.env = (false, eval (.Name x px) X.env) :: starEach [] X.env := by rfl) : PE X (.Call (.Name "len" p) [.Name x px] [] pos) (tE Z (oLenV i)) := by
  refine PE.imp (pe_callB call_len hg hm PySem.boot_len (pa_cons (pe_var hN hv hd hcd) pa_nil he) (he := he)) fun σ H Q ⟨F, env, g, h⟩ => ?_
  unfold oLenV at h
  cases ho : ownAt env i with
  | some ds =>
    rw [ho] at h
    obtain ⟨a, vs, e1, e2, e3⟩ := own_at g ho
    refine ⟨_, e1, .ref a, vs.length, rfl, .inl ⟨vs, by rw [← hK]; exact e2.sq, rfl⟩, ?_⟩
    rw [e3.length]
    exact h _ H F g (Ex.refl F) (.int _)
  | none =>
    rw [ho] at h
    dsimp only at h
    cases e : env[i]? with
    | none => rw [e] at h; exact h.elim
    | some s =>
      rw [e] at h
      cases s with
      | sh d =>
        dsimp only at h
        cases hz : lenF [d] with
        | none => rw [hz] at h; exact h.elim
        | some z =>
          rw [hz] at h
          obtain ⟨v, h1, h2⟩ := g.sh i d e
          refine ⟨v, h1, ?_⟩
          have := s_len Z F σ H env [v] [d] z Q rfl g (.cons h2 .nil) hz h
          rw [hK] at this
          exact this
      | no => exact h.elim
      | ow ds => exact h.elim
      | io ds => exact h.elim
end
end FE

namespace FE
open PySem PySem.Spec PyProof.Rows L2

section
variable {X : Cx} {Z : Zd} {elt tg iter : Expr} {ifs : List Expr} {scope : Scope} {own : List (PySem.Str × Nat)} {pos spos py : Pos} {oi : Env → OI} {g : TG} {f : D → Env → Option Env} {ot : Env → OT} {oe : Env → OE} {i : Nat} {y : PySem.Str}
abbrev Zc (Z : Zd) (F0 H0 : Hp) (as : List Addr) : Zd := ⟨Z.G, F0, H0, as, fun _ _ _ _ => False, Z.C⟩
theorem n_comp (own : List (PySem.Str × Nat)) (hN : X.N.Nodup) (hi : PI X tg iter (tI Z oi)) (ht : TgOk Z.G (own.map (·.2)) g f)
    (hg : ∀ (s : Shared) (H : Hp) (C : Addr) (cl : List (PySem.Str × Addr)) (fp : List Addr), PG (X.blk s H scope (compEnvC scope cl C X.env) fp) tg g)
    (hT : ∀ (F0 H0 : Hp) (as : List Addr) (s : Shared) (H : Hp) (C : Addr) (cl : List (PySem.Str × Addr)) (fp : List Addr), PTs (X.blk s H scope (compEnvC scope cl C X.env) fp) ifs (tT (Zc Z F0 H0 as) ot))
    (he : ∀ (F0 H0 : Hp) (as : List Addr) (s : Shared) (H : Hp) (C : Addr) (cl : List (PySem.Str × Addr)) (fp : List Addr), PE (X.blk s H scope (compEnvC scope cl C X.env) fp) elt (tE (Zc Z F0 H0 as) oe)) (hc : X.calm = true := by rfl)
    (ok : BlkOk X.N X.env.scope scope own := by exact blkOk_by (by rfl)) (nd : (own.map (·.2)).Nodup := by decide) (hs : ∀ x, foldedSetIterable iter X.env x = pure x := by intro _; rfl) :
    PE X (.ListComp elt [⟨tg, iter, ifs, 0⟩] scope pos) (tE Z (oLc oi f ot oe (own.map (·.2)))) :=
  n_lc hc hN hi ok nd ht hg (fun Z' q s H C cl fp => by
    obtain ⟨G', F0, H0, as, W, C'⟩ := Z'
    obtain ⟨q1, q2, q3⟩ := q
    dsimp only at q1 q2 q3
    subst q1 q2 q3
    exact hT F0 H0 as s H C cl fp) (fun Z' q s H C cl fp => by
    obtain ⟨G', F0, H0, as, W, C'⟩ := Z'
    obtain ⟨q1, q2, q3⟩ := q
    dsimp only at q1 q2 q3
    subst q1 q2 q3
    exact he F0 H0 as s H C cl fp) hs
theorem n_asgComp (i : Nat) (own : List (PySem.Str × Nat)) (hN : X.N.Nodup) (hi : PI X tg iter (tI Z oi)) (ht : TgOk Z.G (own.map (·.2)) g f)
    (hg : ∀ (s : Shared) (H : Hp) (C : Addr) (cl : List (PySem.Str × Addr)) (fp : List Addr), PG (X.blk s H scope (compEnvC scope cl C X.env) fp) tg g)
    (hT : ∀ (F0 H0 : Hp) (as : List Addr) (s : Shared) (H : Hp) (C : Addr) (cl : List (PySem.Str × Addr)) (fp : List Addr), PTs (X.blk s H scope (compEnvC scope cl C X.env) fp) ifs (tT (Zc Z F0 H0 as) ot))
    (he : ∀ (F0 H0 : Hp) (as : List Addr) (s : Shared) (H : Hp) (C : Addr) (cl : List (PySem.Str × Addr)) (fp : List Addr), PE (X.blk s H scope (compEnvC scope cl C X.env) fp) elt (tE (Zc Z F0 H0 as) oe)) (hc : X.calm = true := by rfl)
    (ok : BlkOk X.N X.env.scope scope own := by exact blkOk_by (by rfl)) (nd : (own.map (·.2)).Nodup := by decide)
    (hsw : swapsWith (.ListComp elt [⟨tg, iter, ifs, 0⟩] scope pos) (some (.Name y py)) spos.line X.env = pure true := by rfl)
    (hy : X.N[i]? = some y := by rfl) (hyl : X.env.scope.names.lookup y = some .local := by rfl) (hs : ∀ x, foldedSetIterable iter X.env x = pure x := by intro _; rfl) :
    PS X (.Assign [.Name y py] (.ListComp elt [⟨tg, iter, ifs, 0⟩] scope pos) spos) (tS Z (sAsg i (oLc oi f ot oe (own.map (·.2))))) :=
  n_asgLc i hc hN hi ok nd ht hg (fun Z' q s H C cl fp => by
    obtain ⟨G', F0, H0, as, W, C'⟩ := Z'
    obtain ⟨q1, q2, q3⟩ := q
    dsimp only at q1 q2 q3
    subst q1 q2 q3
    exact hT F0 H0 as s H C cl fp) (fun Z' q s H C cl fp => by
    obtain ⟨G', F0, H0, as, W, C'⟩ := Z'
    obtain ⟨q1, q2, q3⟩ := q
    dsimp only at q1 q2 q3
    subst q1 q2 q3
    exact he F0 H0 as s H C cl fp) hsw hy hyl hs
end
theorem RoomX.blk {k : Nat} {X : Cx} {s : Shared} {H : Hp} {scope : Scope} {env : PySem.Env} {fp : List Addr} (h : RoomX k X) : RoomX k (X.blk s H scope env fp) := ⟨h.r, h.g⟩
theorem room_u {k : Nat} {X : Cx} (r : RoomX k X) : X.A.units + 150 < cLine := by
  have := r.r.un
  omega
theorem room_64 {k : Nat} {X : Cx} (r : RoomX k X) : X.A.units + 64 < cLine := by
  have := r.r.un
  omega
theorem room_65 {k : Nat} {X : Cx} (r : RoomX k X) : X.A.units + 65 < cLine := by
  have := r.r.un
  omega
/-- a law's end -/
theorem walk_ofG {l : PySem.W.OpenLaw} {n k : Nat} {q : Program} {loose : List PySem.Str} {XP : (PySem.Str → Option Value) → Heap → Prop} {YP : World → Heap → Prop} {d : DefRec} {x : PySem.Str}
    (hn : l.most = some n) (hn2 : n ≤ sizeLine) (hdf : d.params.defaults = []) (hr : Room k callerA)
    (F : ∀ (w : World) (mg : PySem.Str → Option Value) (fa : Addr) (h : Heap), YP w h → h.Ns mainGlobals mg → mg d.name = some (.ref fa) →
      ∃ (K : PySem.W.Frag) (fd : FuncData) (sp : Sp), K.In h ∧ (∀ (s : Shared) (u : Value), BindsTo s fd ⟨[u], []⟩ [(x, u)]) ∧
        (∀ (H : Hp) (a : Addr) (ns : List Int), ns.length ≤ n → (∀ k ∈ ns, Builtin.Int.intBits k ≤ 1048576) → (∀ b, H b = none ∨ b = a) → Lr K H a (ns.map V.int) → sp [.ref a] H (fun v _ => v = .bl true) fun _ _ _ => False) ∧
        ∀ base : Heap, K.In base → base.Ns mainGlobals mg → FnG l.prog w K mg base k fa fd [x] sp) :
    PySem.W.WalkO q loose XP YP l.row.toRowW d [] (fun f vs => PySem.call f vs) := by
  refine Att.attach_callB hn hdf fun w s₀ s₁ mg mb fa o pm cd doc a vs ns G Y ho hd hcd hmg hobj hints hlen hbits hg => ?_
  obtain ⟨K, fd, sp, KX, hb, hsp, hF⟩ := F w mg fa _ Y G.T.g hmg
  exact law_callG KX G.T.g G.T.b G.T.builtins G.T.nolimit hg hobj hints (Nat.le_trans hlen hn2) hr hF hb fun H hO hS => hsp H a ns hlen hbits hO hS
/-- a def of the top, called with all its values by place -/
theorem cal_of {P : Program} {w : World} {K : PySem.W.Frag} {mg : PySem.Str → Option Value} {base h : Heap} {k : Nat} {x : PySem.Str} {params : Arguments} {body : List Stmt} {scope : Scope} {fd : FuncData} {ps : List PySem.Str} {sp : Sp}
    (X : K.In h) (G : h.Ns mainGlobals mg) (g : (He.Fa.glo x).ok K = true) (F : FunD K x x params body scope [] [] (He.ga K x) fd) (fn : FnG P w K mg base k (He.ga K x) fd ps sp)
    (b : ∀ (kV doc pm : Value) (an : Option Addr) (cdv ct : Value) (us : List Value), us.length = ps.length → bindArgs (PySem.W.fnOf x x params body scope .none kV doc pm an cdv ct) ⟨us, []⟩ = pure (ps.zip us)) : Cal P w K mg base k x ps.length [] (fun vs _ => vs) sp := by
  refine ⟨_, fd, ps, fun us _ => us, He.glo_ok X G g, F.kp, fn, ?_⟩
  have bs := F.bindsN (ps := ps) b
  constructor
  · intro s us ws KX l1 l2
    have : ws = [] := List.length_eq_zero_iff.mp l2
    subst this
    have := bs s us KX (by rw [List.append_nil]; exact l1)
    rw [List.append_nil] at this
    exact this
  · exact fun r _ => r
/-- the law's start: its list, of ints -/
def intsL (ns : List Int) : List D := ns.map D.int
theorem repL_ints {G : Gd} {F : Hp} : ∀ ns : List Int, RepL G F (ns.map V.int) (intsL ns)
  | [] => .nil
  | n :: ns => .cons (.int n) (repL_ints ns)
theorem sp_law {G : Gd} {C : PySem.Str → Value → Prop} {f : List D → OC} {H : Hp} {a : Addr} {ns : List Int} (hl : Lr G.K H a (ns.map V.int)) (h : f [.lst (intsL ns)] = .ret (.sh (.bl true)) []) : spF G C 1 none f [.ref a] H (fun v _ => v = .bl true) fun _ _ _ => False := by
  refine ⟨H, [.lst (intsL ns)], [], rfl, argsOk_all (Ex.refl H) (.cons (.lst hl (repL_ints ns)) .nil), ?_⟩
  rw [h]
  intro v H' F' _ r
  exact bl_of r
end FE

namespace FE
open PySem PySem.Spec PyProof.Rows L2

section
variable {X : Cx} {Z : Zd} {a : Expr} {oa : Env → OE} {ok : Env → OA} {nm : Option PySem.Str} {kpos : Pos} {kws : List Keyword}
theorem call_maxU (hc : X.calm = true) : CallR X (.builtin "max") (rMax' X.K) := (call_max2 hc).or (cr_max hc)
theorem call_minU (hc : X.calm = true) : CallR X (.builtin "min") (rMin' X.K) := (call_min2 hc).or (cr_min hc)
theorem call_strU : CallR X (.type "str") rStrU := call_str_int.or SkE.call_str_str
theorem n_kcons (ha : PE X a (tE Z oa)) (hr : PK X kws (tA Z ok)) : PK X (⟨nm, a, kpos⟩ :: kws) (tA Z (oCons oa ok)) := by
  refine PK.imp (pk_cons ha hr) fun σ H Q ⟨F, env, g, h⟩ => ?_
  refine seqEA g h fun r1 env1 v1 H1 F1 g1 x1 rp1 h1 => ?_
  refine seqAA g1 h1 fun ds env2 vs H2 F2 g2 x2 rp2 h2 => ?_
  exact h2 (v1 :: vs) H2 F2 g2 (Ex.refl F2) (.cons (rp1.mono x2) rp2)
end
theorem grel_kw (n m : Nat) : GRel (n + m) n m (fun vs zs => vs ++ zs) (fun ds es => ds ++ es) := fun G F vs zs ds es h1 h2 r1 r2 => ⟨by rw [List.length_append, h1, h2], r1.append r2⟩
/-- .. by place and by name, all of it told -/
theorem cal_kw {P : Program} {w : World} {K : PySem.W.Frag} {mg : PySem.Str → Option Value} {base h : Heap} {k : Nat} {x : PySem.Str} {params : Arguments} {body : List Stmt} {scope : Scope} {fd : FuncData} {ps : List PySem.Str} {sp : Sp} (n : Nat) (ks : List PySem.Str)
    (X : K.In h) (G : h.Ns mainGlobals mg) (g : (He.Fa.glo x).ok K = true) (F : FunD K x x params body scope [] [] (He.ga K x) fd) (fn : FnG P w K mg base k (He.ga K x) fd ps sp)
    (b : ∀ (kV doc pm : Value) (an : Option Addr) (cdv ct : Value) (us ws : List Value), us.length = n → ws.length = ks.length → bindArgs (PySem.W.fnOf x x params body scope .none kV doc pm an cdv ct) ⟨us, ks.zip ws⟩ = pure (ps.zip (us ++ ws))) : Cal P w K mg base k x n ks (fun vs zs => vs ++ zs) sp := by
  refine ⟨_, fd, ps, fun us ws => us ++ ws, He.glo_ok X G g, F.kp, fn, ?_⟩
  obtain ⟨oc, od, dV, kV, doc, pm, an, cdv, ct, osl, rfl, lk, hcd, hD, hK⟩ := F.ex
  rcases hD with ⟨_, rfl⟩ | ⟨e, _⟩
  · constructor
    · exact fun s us ws KX l1 l2 => .of_eq (b kV doc pm an cdv ct us ws l1 l2)
    · exact fun r1 r2 => r1.append r2
  · exact absurd rfl e
/-! facts of the top -/
structure Tp (fa : List He.Fa) (fn : List He.DefD) (ex : PySem.W.Frag → Bool) (w : World) (K : PySem.W.Frag) (mg : PySem.Str → Option Value) (h : Heap) : Prop where
  kx : K.In h
  g : h.Ns mainGlobals mg
  c : He.SaysX fa fn [] [] ex w h K
section
variable {fa : List He.Fa} {fn : List He.DefD} {ex : PySem.W.Frag → Bool} {w : World} {K : PySem.W.Frag} {mg : PySem.Str → Option Value} {h : Heap}
theorem Tp.d (T : Tp fa fn ex w K mg h) : He.SaysD fa fn K := congrArg (fun z : He.AlT => z.1) T.c.t
theorem Tp.fact (T : Tp fa fn ex w K mg h) {f : He.Fa} (i : Nat) (e : fa[i]? = some f := by rfl) : f.ok K = true := T.d.fact i e
theorem Tp.free (T : Tp fa fn ex w K mg h) {x : PySem.Str} (i : Nat) (e : fa[i]? = some (.free x) := by rfl) : mg x = none := He.free_ok T.kx T.g (T.fact i e)
theorem Tp.int (T : Tp fa fn ex w K mg h) {x : PySem.Str} {n : Int} (i : Nat) (e : fa[i]? = some (.int x n) := by rfl) : ∃ u, mg x = some u ∧ RelV (.int n) u := by
  obtain ⟨t, q⟩ := He.int_ok T.kx T.g (T.fact i e)
  exact ⟨_, q, t, rfl⟩
theorem Tp.str (T : Tp fa fn ex w K mg h) {x z : PySem.Str} (i : Nat) (e : fa[i]? = some (.str x z) := by rfl) : ∃ u, mg x = some u ∧ RelV (.str z) u := by
  obtain ⟨t, q⟩ := He.str_ok T.kx T.g (T.fact i e)
  exact ⟨_, q, t, rfl⟩
end
end FE

namespace FE
open PySem PySem.Spec PyProof.Rows L2

/-! ### the machine's equations, for simp -/
theorem e_OE_bind_ok (r : R) (e : FE.Env) (f : R → FE.Env → OE) : (OE.ok r e).bind f = f r e := (rfl)
theorem e_OE_bind_exc (x : Xc) (e : FE.Env) (f : R → FE.Env → OE) : (OE.exc x e).bind f = .exc x e := (rfl)
theorem e_OE_bindT_ok (r : R) (e : FE.Env) (f : R → FE.Env → OT) : (OE.ok r e).bindT f = f r e := (rfl)
theorem e_OE_bindT_exc (x : Xc) (e : FE.Env) (f : R → FE.Env → OT) : (OE.exc x e).bindT f = .exc x e := (rfl)
theorem e_OE_bindA_ok (r : R) (e : FE.Env) (f : R → FE.Env → OA) : (OE.ok r e).bindA f = f r e := (rfl)
theorem e_OE_bindA_exc (x : Xc) (e : FE.Env) (f : R → FE.Env → OA) : (OE.exc x e).bindA f = .exc x e := (rfl)
theorem e_OE_bindS_ok (r : R) (e : FE.Env) (f : R → FE.Env → OS) : (OE.ok r e).bindS f = f r e := (rfl)
theorem e_OE_bindS_exc (x : Xc) (e : FE.Env) (f : R → FE.Env → OS) : (OE.exc x e).bindS f = .exc x e := (rfl)
theorem e_OE_bindI_ok (r : R) (e : FE.Env) (f : R → FE.Env → OI) : (OE.ok r e).bindI f = f r e := (rfl)
theorem e_OE_bindI_exc (x : Xc) (e : FE.Env) (f : R → FE.Env → OI) : (OE.exc x e).bindI f = .exc x e := (rfl)
theorem e_OE_bindG_ok (r : R) (e : FE.Env) (f : R → FE.Env → OG) : (OE.ok r e).bindG f = f r e := (rfl)
theorem e_OE_bindG_exc (x : Xc) (e : FE.Env) (f : R → FE.Env → OG) : (OE.exc x e).bindG f = .exc x e := (rfl)
theorem e_OT_bind_ok (b : Bool) (e : FE.Env) (f : Bool → FE.Env → OT) : (OT.ok b e).bind f = f b e := (rfl)
theorem e_OT_bind_exc (x : Xc) (e : FE.Env) (f : Bool → FE.Env → OT) : (OT.exc x e).bind f = .exc x e := (rfl)
theorem e_OT_bindE_ok (b : Bool) (e : FE.Env) (f : Bool → FE.Env → OE) : (OT.ok b e).bindE f = f b e := (rfl)
theorem e_OT_bindE_exc (x : Xc) (e : FE.Env) (f : Bool → FE.Env → OE) : (OT.exc x e).bindE f = .exc x e := (rfl)
theorem e_OT_bindS_ok (b : Bool) (e : FE.Env) (f : Bool → FE.Env → OS) : (OT.ok b e).bindS f = f b e := (rfl)
theorem e_OT_bindS_exc (x : Xc) (e : FE.Env) (f : Bool → FE.Env → OS) : (OT.exc x e).bindS f = .exc x e := (rfl)
theorem e_OA_bind_ok (ds : List D) (e : FE.Env) (f : List D → FE.Env → OA) : (OA.ok ds e).bind f = f ds e := (rfl)
theorem e_OA_bind_exc (x : Xc) (e : FE.Env) (f : List D → FE.Env → OA) : (OA.exc x e).bind f = .exc x e := (rfl)
theorem e_OA_bindE_ok (ds : List D) (e : FE.Env) (f : List D → FE.Env → OE) : (OA.ok ds e).bindE f = f ds e := (rfl)
theorem e_OA_bindE_exc (x : Xc) (e : FE.Env) (f : List D → FE.Env → OE) : (OA.exc x e).bindE f = .exc x e := (rfl)
theorem e_OA_bindI_ok (ds : List D) (e : FE.Env) (f : List D → FE.Env → OI) : (OA.ok ds e).bindI f = f ds e := (rfl)
theorem e_OA_bindI_exc (x : Xc) (e : FE.Env) (f : List D → FE.Env → OI) : (OA.exc x e).bindI f = .exc x e := (rfl)
theorem e_OI_bindE_ok (ds : List D) (e : FE.Env) (f : List D → FE.Env → OE) : (OI.ok ds e).bindE f = f ds e := (rfl)
theorem e_OI_bindE_exc (x : Xc) (e : FE.Env) (f : List D → FE.Env → OE) : (OI.exc x e).bindE f = .exc x e := (rfl)
theorem e_OI_bindS_ok (ds : List D) (e : FE.Env) (f : List D → FE.Env → OS) : (OI.ok ds e).bindS f = f ds e := (rfl)
theorem e_OI_bindS_exc (x : Xc) (e : FE.Env) (f : List D → FE.Env → OS) : (OI.exc x e).bindS f = .exc x e := (rfl)
theorem e_OG_bind_ok (as : List AD) (e : FE.Env) (f : List AD → FE.Env → OG) : (OG.ok as e).bind f = f as e := (rfl)
theorem e_OG_bind_exc (x : Xc) (e : FE.Env) (f : List AD → FE.Env → OG) : (OG.exc x e).bind f = .exc x e := (rfl)
theorem e_OG_bindE_ok (as : List AD) (e : FE.Env) (f : List AD → FE.Env → OE) : (OG.ok as e).bindE f = f as e := (rfl)
theorem e_OG_bindE_exc (x : Xc) (e : FE.Env) (f : List AD → FE.Env → OE) : (OG.exc x e).bindE f = .exc x e := (rfl)
theorem e_seq_nx (e : FE.Env) (f : FE.Env → OS) : (OS.nx e).seq f = f e := (rfl)
theorem e_seq_ret (r : R) (e : FE.Env) (f : FE.Env → OS) : (OS.ret r e).seq f = .ret r e := (rfl)
theorem e_seq_brk (e : FE.Env) (f : FE.Env → OS) : (OS.brk e).seq f = .brk e := (rfl)
theorem e_seq_cnt (e : FE.Env) (f : FE.Env → OS) : (OS.cnt e).seq f = .cnt e := (rfl)
theorem e_seq_exc (x : Xc) (e : FE.Env) (f : FE.Env → OS) : (OS.exc x e).seq f = .exc x e := (rfl)

def varK (env : FE.Env) (i : Nat) : Option SV → OE
  | some (.sh d) => .ok (.sh d) env
  | some (.ow ds) => .ok (.sh (.lst ds)) (env.set i (.sh (.lst ds)))
  | _ => .bad
theorem e_var (i : Nat) (env : FE.Env) : oVar i env = varK env i env[i]? := by
  unfold oVar varK
  cases env[i]? with
  | none => rfl
  | some s => cases s <;> rfl
theorem e_varK_sh (env : FE.Env) (i : Nat) (d : D) : varK env i (some (.sh d)) = .ok (.sh d) env := (rfl)
theorem e_varK_ow (env : FE.Env) (i : Nat) (ds : List D) : varK env i (some (.ow ds)) = .ok (.sh (.lst ds)) (env.set i (.sh (.lst ds))) := (rfl)

def mvK (env : FE.Env) (i : Nat) : Option SV → OE
  | some (.sh d) => .ok (.sh d) env
  | some (.ow ds) => .ok (.ow ds) (env.set i .no)
  | _ => .bad
theorem e_mv (i : Nat) (env : FE.Env) : oMv i env = mvK env i env[i]? := by
  unfold oMv mvK
  cases env[i]? with
  | none => rfl
  | some s => cases s <;> rfl
theorem e_mvK_sh (env : FE.Env) (i : Nat) (d : D) : mvK env i (some (.sh d)) = .ok (.sh d) env := (rfl)
theorem e_mvK_ow (env : FE.Env) (i : Nat) (ds : List D) : mvK env i (some (.ow ds)) = .ok (.ow ds) (env.set i .no) := (rfl)
theorem e_c (d : D) (env : FE.Env) : oC d env = .ok (.sh d) env := (rfl)

def okO (o : Option R) (e : FE.Env) : OE := match o with
  | some z => .ok z e
  | none => .bad
theorem e_okO (z : R) (e : FE.Env) : okO (some z) e = .ok z e := (rfl)

def opK2 (f : D → D → Option R) (r1 : R) (r2 : R) (e : FE.Env) : OE := okO (f r1.fz r2.fz) e
def opK1 (f : D → D → Option R) (ob : FE.Env → OE) (r1 : R) (e : FE.Env) : OE := (ob e).bind (opK2 f r1)
theorem e_op2 (f : D → D → Option R) (oa ob : FE.Env → OE) (env : FE.Env) : oOp2 f oa ob env = (oa env).bind (opK1 f ob) := by
  unfold oOp2 opK1 opK2 okO
  rfl
theorem e_opK1 (f : D → D → Option R) (ob : FE.Env → OE) (r1 : R) (e : FE.Env) : opK1 f ob r1 e = (ob e).bind (opK2 f r1) := (rfl)
theorem e_opK2 (f : D → D → Option R) (r1 r2 : R) (e : FE.Env) : opK2 f r1 r2 e = okO (f r1.fz r2.fz) e := (rfl)
def unK (f : D → Option R) (r1 : R) (e : FE.Env) : OE := okO (f r1.fz) e
theorem e_un (f : D → Option R) (oa : FE.Env → OE) (env : FE.Env) : oUn f oa env = (oa env).bind (unK f) := by
  unfold oUn unK okO
  rfl
theorem e_unK (f : D → Option R) (r1 : R) (e : FE.Env) : unK f r1 e = okO (f r1.fz) e := (rfl)

def andK (ob : FE.Env → OE) (r : R) (e : FE.Env) : OE := match r.fz with
  | .bl b => if b = true then ob e else .ok (.sh (.bl false)) e
  | _ => .bad
def orK (ob : FE.Env → OE) (r : R) (e : FE.Env) : OE := match r.fz with
  | .bl b => if b = true then .ok (.sh (.bl true)) e else ob e
  | _ => .bad
def notK (r : R) (e : FE.Env) : OE := match r.fz with
  | .bl b => .ok (.sh (.bl (!b))) e
  | _ => .bad
def truK (r : R) (e : FE.Env) : OT := match r.fz with
  | .bl b => .ok b e
  | _ => .bad
theorem e_and (oa ob : FE.Env → OE) (env : FE.Env) : oAnd oa ob env = (oa env).bind (andK ob) := by
  unfold oAnd
  congr 1
  funext r e
  unfold andK
  cases r.fz <;> first | rfl | (rename_i b; cases b <;> rfl)
theorem e_or (oa ob : FE.Env → OE) (env : FE.Env) : oOr oa ob env = (oa env).bind (orK ob) := by
  unfold oOr
  congr 1
  funext r e
  unfold orK
  cases r.fz <;> first | rfl | (rename_i b; cases b <;> rfl)
theorem e_not (oa : FE.Env → OE) (env : FE.Env) : oNot oa env = (oa env).bind notK := rfl
theorem e_tru (oa : FE.Env → OE) (env : FE.Env) : oTru oa env = (oa env).bindT truK := rfl
theorem e_andK_t (ob : FE.Env → OE) (e : FE.Env) : andK ob (.sh (.bl true)) e = ob e := (rfl)
theorem e_andK_f (ob : FE.Env → OE) (e : FE.Env) : andK ob (.sh (.bl false)) e = .ok (.sh (.bl false)) e := (rfl)
theorem e_orK_t (ob : FE.Env → OE) (e : FE.Env) : orK ob (.sh (.bl true)) e = .ok (.sh (.bl true)) e := (rfl)
theorem e_orK_f (ob : FE.Env → OE) (e : FE.Env) : orK ob (.sh (.bl false)) e = ob e := (rfl)
theorem e_notK (b : Bool) (e : FE.Env) : notK (.sh (.bl b)) e = .ok (.sh (.bl (!b))) e := (rfl)
theorem e_truK (b : Bool) (e : FE.Env) : truK (.sh (.bl b)) e = .ok b e := (rfl)

def ifK (oa ob : FE.Env → OE) (b : Bool) (e : FE.Env) : OE := if b = true then oa e else ob e
def tandK (ob : FE.Env → OT) (b : Bool) (e : FE.Env) : OT := if b = true then ob e else .ok false e
def torK (ob : FE.Env → OT) (b : Bool) (e : FE.Env) : OT := if b = true then .ok true e else ob e
def tnotK (b : Bool) (e : FE.Env) : OT := .ok (!b) e
def sifK (oa ob : FE.Env → OS) (b : Bool) (e : FE.Env) : OS := if b = true then oa e else ob e
theorem e_if (ot : FE.Env → OT) (oa ob : FE.Env → OE) (env : FE.Env) : oIf ot oa ob env = (ot env).bindE (ifK oa ob) := (rfl)
theorem e_tand (oa ob : FE.Env → OT) (env : FE.Env) : oTAnd oa ob env = (oa env).bind (tandK ob) := (rfl)
theorem e_tor (oa ob : FE.Env → OT) (env : FE.Env) : oTOr oa ob env = (oa env).bind (torK ob) := (rfl)
theorem e_tnot (oa : FE.Env → OT) (env : FE.Env) : oTNot oa env = (oa env).bind tnotK := (rfl)
theorem e_sif (ot : FE.Env → OT) (o1 o2 : FE.Env → OS) (env : FE.Env) : sIf ot o1 o2 env = (ot env).bindS (sifK o1 o2) := (rfl)
theorem e_ifK_t (oa ob : FE.Env → OE) (e : FE.Env) : ifK oa ob true e = oa e := (rfl)
theorem e_ifK_f (oa ob : FE.Env → OE) (e : FE.Env) : ifK oa ob false e = ob e := (rfl)
theorem e_sifK_t (oa ob : FE.Env → OS) (e : FE.Env) : sifK oa ob true e = oa e := (rfl)
theorem e_sifK_f (oa ob : FE.Env → OS) (e : FE.Env) : sifK oa ob false e = ob e := (rfl)
theorem e_tandK_t (ob : FE.Env → OT) (e : FE.Env) : tandK ob true e = ob e := (rfl)
theorem e_tandK_f (ob : FE.Env → OT) (e : FE.Env) : tandK ob false e = .ok false e := (rfl)
theorem e_torK_t (ob : FE.Env → OT) (e : FE.Env) : torK ob true e = .ok true e := (rfl)
theorem e_torK_f (ob : FE.Env → OT) (e : FE.Env) : torK ob false e = ob e := (rfl)
theorem e_tnotK (b : Bool) (e : FE.Env) : tnotK b e = .ok (!b) e := (rfl)
theorem e_nil (env : FE.Env) : oNil env = .ok [] env := (rfl)

def consK2 (r : R) (ds : List D) (e : FE.Env) : OA := .ok (r.fz :: ds) e
def consK1 (os : FE.Env → OA) (r : R) (e : FE.Env) : OA := (os e).bind (consK2 r)
def tupK (ds : List D) (e : FE.Env) : OE := if ds.length ≤ 1000000 then .ok (.sh (.tup ds)) e else .bad
def lstK (ds : List D) (e : FE.Env) : OE := if ds.length ≤ 1000000 then .ok (.ow ds) e else .bad
def cbK (f : List D → Option R) (ds : List D) (e : FE.Env) : OE := okO (f ds) e
theorem e_cons (oa : FE.Env → OE) (os : FE.Env → OA) (env : FE.Env) : oCons oa os env = (oa env).bindA (consK1 os) := (rfl)
theorem e_consK1 (os : FE.Env → OA) (r : R) (e : FE.Env) : consK1 os r e = (os e).bind (consK2 r) := (rfl)
theorem e_consK2 (r : R) (ds : List D) (e : FE.Env) : consK2 r ds e = .ok (r.fz :: ds) e := (rfl)
theorem e_tup (os : FE.Env → OA) (env : FE.Env) : oTup os env = (os env).bindE tupK := (rfl)
theorem e_lst (os : FE.Env → OA) (env : FE.Env) : oLst os env = (os env).bindE lstK := (rfl)
theorem e_cb (f : List D → Option R) (os : FE.Env → OA) (env : FE.Env) : oCallB f os env = (os env).bindE (cbK f) := by
  unfold oCallB cbK okO
  rfl
theorem e_tupK (ds : List D) (e : FE.Env) : tupK ds e = if ds.length ≤ 1000000 then .ok (.sh (.tup ds)) e else .bad := (rfl)
theorem e_lstK (ds : List D) (e : FE.Env) : lstK ds e = if ds.length ≤ 1000000 then .ok (.ow ds) e else .bad := (rfl)
theorem e_cbK (f : List D → Option R) (ds : List D) (e : FE.Env) : cbK f ds e = okO (f ds) e := (rfl)

def chK3 (f' : D → D → Option R) (r2 r3 : R) (e : FE.Env) : OE := okO (f' r2.fz r3.fz) e
def chB (f' : D → D → Option R) (oc : FE.Env → OE) (r2 : R) (e : FE.Env) : Option R → OE
  | some (.sh (.bl true)) => (oc e).bind (chK3 f' r2)
  | some (.sh (.bl false)) => .ok (.sh (.bl false)) e
  | _ => .bad
def chK2 (f f' : D → D → Option R) (oc : FE.Env → OE) (r1 r2 : R) (e : FE.Env) : OE := chB f' oc r2 e (f r1.fz r2.fz)
def chK1 (f f' : D → D → Option R) (ob oc : FE.Env → OE) (r1 : R) (e : FE.Env) : OE := (ob e).bind (chK2 f f' oc r1)
theorem e_chain (f f' : D → D → Option R) (oa ob oc : FE.Env → OE) (env : FE.Env) : oChain f f' oa ob oc env = (oa env).bind (chK1 f f' ob oc) := by
  unfold oChain
  all_goals congr 1
theorem e_chK1 (f f' : D → D → Option R) (ob oc : FE.Env → OE) (r1 : R) (e : FE.Env) : chK1 f f' ob oc r1 e = (ob e).bind (chK2 f f' oc r1) := (rfl)
theorem e_chK2 (f f' : D → D → Option R) (oc : FE.Env → OE) (r1 r2 : R) (e : FE.Env) : chK2 f f' oc r1 r2 e = chB f' oc r2 e (f r1.fz r2.fz) := (rfl)
theorem e_chK3 (f' : D → D → Option R) (r2 r3 : R) (e : FE.Env) : chK3 f' r2 r3 e = okO (f' r2.fz r3.fz) e := (rfl)
theorem e_chB_t (f' : D → D → Option R) (oc : FE.Env → OE) (r2 : R) (e : FE.Env) : chB f' oc r2 e (some (.sh (.bl true))) = (oc e).bind (chK3 f' r2) := (rfl)
theorem e_chB_f (f' : D → D → Option R) (oc : FE.Env → OE) (r2 : R) (e : FE.Env) : chB f' oc r2 e (some (.sh (.bl false))) = .ok (.sh (.bl false)) e := (rfl)

def ixE (e : FE.Env) (d : D) : Option SV → Option (List D) → OE
  | _, some ds => (match d with
    | .int k => (match L2.atI ds k with
      | some x => .ok (.sh x) e
      | none => .bad)
    | _ => .bad)
  | some (.sh x), none => okO (ixF x d) e
  | _, none => .bad
def ixVK (i : Nat) (r : R) (e : FE.Env) : OE := ixE e r.fz e[i]? (ownAt e i)
def ixH (i : Nat) (ob : FE.Env → OE) (env : FE.Env) : Bool → OE
  | true => (ob env).bind (ixVK i)
  | false => .bad
theorem e_ixV (i : Nat) (ob : FE.Env → OE) (env : FE.Env) : oIxV i ob env = ixH i ob env (here env[i]?) := by
  unfold oIxV ixH
  cases here env[i]? with
  | false => rfl
  | true =>
    rw [if_pos rfl]
    dsimp only
    congr 1
    funext r e
    unfold ixVK ixE okO
    cases ownAt e i with
    | some ds => rfl
    | none => cases e[i]? with
      | none => rfl
      | some s => cases s <;> rfl
theorem e_ixH (i : Nat) (ob : FE.Env → OE) (env : FE.Env) : ixH i ob env true = (ob env).bind (ixVK i) := (rfl)
theorem e_ixVK (i : Nat) (r : R) (e : FE.Env) : ixVK i r e = ixE e r.fz e[i]? (ownAt e i) := (rfl)

def atO (e : FE.Env) : Option D → OE
  | some x => .ok (.sh x) e
  | none => .bad
theorem e_ixE_own (e : FE.Env) (k : Int) (s : Option SV) (ds : List D) : ixE e (.int k) s (some ds) = atO e (L2.atI ds k) := by
  unfold ixE atO
  rfl
theorem e_ixE_sh (e : FE.Env) (d x : D) : ixE e d (some (.sh x)) none = okO (ixF x d) e := (rfl)
theorem e_atO (e : FE.Env) (x : D) : atO e (some x) = .ok (.sh x) e := (rfl)

def ownS : Option SV → Option (List D)
  | some (.ow ds) => some ds
  | some (.io ds) => some ds
  | some (.sh (.lst ds)) => some ds
  | _ => none
theorem e_ownAt (e : FE.Env) (i : Nat) : ownAt e i = ownS e[i]? := by
  unfold ownAt ownS
  rfl
theorem e_ownS_ow (ds : List D) : ownS (some (.ow ds)) = some ds := (rfl)
theorem e_ownS_io (ds : List D) : ownS (some (.io ds)) = some ds := (rfl)
theorem e_ownS_lst (ds : List D) : ownS (some (.sh (.lst ds))) = some ds := (rfl)
theorem e_ownS_tup (ds : List D) : ownS (some (.sh (.tup ds))) = none := (rfl)
theorem e_ownS_str (x : PySem.Str) : ownS (some (.sh (.str x))) = none := (rfl)
theorem e_ownS_int (x : Int) : ownS (some (.sh (.int x))) = none := (rfl)

def lenK (env : FE.Env) : Option SV → Option (List D) → OE
  | _, some ds => .ok (.sh (.int ds.length)) env
  | some (.sh d), none => okO (lenF [d]) env
  | _, none => .bad
theorem e_lenV (i : Nat) (env : FE.Env) : oLenV i env = lenK env env[i]? (ownAt env i) := by
  unfold oLenV lenK okO
  cases ownAt env i with
  | some ds => rfl
  | none => cases env[i]? with
    | none => rfl
    | some s => cases s <;> rfl
theorem e_lenK_own (env : FE.Env) (s : Option SV) (ds : List D) : lenK env s (some ds) = .ok (.sh (.int ds.length)) env := by
  unfold lenK
  rfl
theorem e_lenK_sh (env : FE.Env) (d : D) : lenK env (some (.sh d)) none = okO (lenF [d]) env := (rfl)
theorem e_here_no : here (some .no) = false := (rfl)
theorem e_noIo_no : noIo (some .no) = true := (rfl)
theorem e_Own_no : Own .no = none := (rfl)
theorem e_here_sh (d : D) : here (some (.sh d)) = true := (rfl)
theorem e_noIo_sh (d : D) : noIo (some (.sh d)) = true := (rfl)
theorem e_Own_sh (d : D) : Own (.sh d) = none := (rfl)
theorem e_here_ow (ds : List D) : here (some (.ow ds)) = true := (rfl)
theorem e_noIo_ow (ds : List D) : noIo (some (.ow ds)) = true := (rfl)
theorem e_Own_ow (ds : List D) : Own (.ow ds) = some ds := (rfl)
theorem e_here_io (ds : List D) : here (some (.io ds)) = true := (rfl)
theorem e_noIo_io (ds : List D) : noIo (some (.io ds)) = false := (rfl)
theorem e_Own_io (ds : List D) : Own (.io ds) = some ds := (rfl)
theorem e_fz_sh (d : D) : (R.sh d).fz = d := (rfl)
theorem e_fz_ow (ds : List D) : (R.ow ds).fz = .lst ds := (rfl)
theorem e_sv_sh (d : D) : (R.sh d).sv = .sh d := (rfl)
theorem e_sv_ow (ds : List D) : (R.ow ds).sv = .ow ds := (rfl)

def retK (r : R) (e : FE.Env) : OS := .ret r e
def exprK (_ : R) (e : FE.Env) : OS := .nx e
def asgB (i : Nat) (r : R) (e : FE.Env) : Bool → OS
  | true => .nx (e.set i r.sv)
  | false => .bad
def asgK (i : Nat) (r : R) (e : FE.Env) : OS := asgB i r e (noIo e[i]?)
theorem e_ret (oa : FE.Env → OE) (env : FE.Env) : sRet oa env = (oa env).bindS retK := (rfl)
theorem e_retK (r : R) (e : FE.Env) : retK r e = .ret r e := (rfl)
theorem e_retN (env : FE.Env) : sRetN env = .ret (.sh .non) env := (rfl)
theorem e_expr (oa : FE.Env → OE) (env : FE.Env) : sExpr oa env = (oa env).bindS exprK := (rfl)
theorem e_exprK (r : R) (e : FE.Env) : exprK r e = .nx e := (rfl)
theorem e_pass (env : FE.Env) : sPass env = .nx env := (rfl)
theorem e_break (env : FE.Env) : sBreak env = .brk env := (rfl)
theorem e_cont (env : FE.Env) : sCont env = .cnt env := (rfl)
theorem e_asg (i : Nat) (oa : FE.Env → OE) (env : FE.Env) : sAsg i oa env = (oa env).bindS (asgK i) := by
  unfold sAsg
  congr 1
  funext r e
  unfold asgK asgB
  cases noIo e[i]? <;> rfl
theorem e_asgK (i : Nat) (r : R) (e : FE.Env) : asgK i r e = asgB i r e (noIo e[i]?) := (rfl)
theorem e_asgB (i : Nat) (r : R) (e : FE.Env) : asgB i r e true = .nx (e.set i r.sv) := (rfl)
theorem e_sseq (o1 o2 : FE.Env → OS) (env : FE.Env) : sSeq o1 o2 env = (o1 env).seq o2 := (rfl)

def setO (rv : R) (i : Nat) (e : FE.Env) (ri : R) : Option (List D) → OS
  | some ds => (match ri.fz with
    | .int k => (match L2.ixN ds.length k with
      | some j => (match setOwn e i (ds.set j rv.fz) with
        | some e3 => .nx e3
        | none => .bad)
      | none => .bad)
    | _ => .bad)
  | none => .bad
def setK2 (rv : R) (i : Nat) (ri : R) (e : FE.Env) : OS := setO rv i e ri (e[i]?.bind Own)
def setB (i : Nat) (oi : FE.Env → OE) (rv : R) (e : FE.Env) : Bool → OS
  | true => (oi e).bindS (setK2 rv i)
  | false => .bad
def setK1 (i : Nat) (oi : FE.Env → OE) (rv : R) (e : FE.Env) : OS := setB i oi rv e (here e[i]?)
def nxO : Option FE.Env → OS
  | some e => .nx e
  | none => .bad
def setJ (rv : R) (i : Nat) (e : FE.Env) (ds : List D) : Option Nat → OS
  | some j => nxO (setOwn e i (ds.set j rv.fz))
  | none => .bad
theorem e_set (i : Nat) (oi ov : FE.Env → OE) (env : FE.Env) : sSetI i oi ov env = (ov env).bindS (setK1 i oi) := by
  unfold sSetI
  congr 1
  funext r e
  unfold setK1 setB
  cases here e[i]? with
  | false => rfl
  | true =>
    rw [if_pos rfl]
    dsimp only
    congr 1
theorem e_setK1 (i : Nat) (oi : FE.Env → OE) (rv : R) (e : FE.Env) : setK1 i oi rv e = setB i oi rv e (here e[i]?) := (rfl)
theorem e_setB (i : Nat) (oi : FE.Env → OE) (rv : R) (e : FE.Env) : setB i oi rv e true = (oi e).bindS (setK2 rv i) := (rfl)
theorem e_setK2 (rv : R) (i : Nat) (ri : R) (e : FE.Env) : setK2 rv i ri e = setO rv i e ri (e[i]?.bind Own) := (rfl)
theorem e_setO (rv : R) (i : Nat) (e : FE.Env) (k : Int) (ds : List D) : setO rv i e (.sh (.int k)) (some ds) = setJ rv i e ds (L2.ixN ds.length k) := by
  unfold setO setJ nxO
  rfl
theorem e_setJ (rv : R) (i : Nat) (e : FE.Env) (ds : List D) (j : Nat) : setJ rv i e ds (some j) = nxO (setOwn e i (ds.set j rv.fz)) := (rfl)
theorem e_nxO (e : FE.Env) : nxO (some e) = .nx e := (rfl)

def soK (env : FE.Env) (i : Nat) (ds : List D) : Option SV → Option FE.Env
  | some (.ow _) => some (env.set i (.ow ds))
  | some (.io _) => some (env.set i (.io ds))
  | _ => none
theorem e_setOwn (env : FE.Env) (i : Nat) (ds : List D) : setOwn env i ds = soK env i ds env[i]? := by
  unfold setOwn soK
  rfl
theorem e_soK_ow (env : FE.Env) (i : Nat) (ds es : List D) : soK env i ds (some (.ow es)) = some (env.set i (.ow ds)) := (rfl)
theorem e_soK_io (env : FE.Env) (i : Nat) (ds es : List D) : soK env i ds (some (.io es)) = some (env.set i (.io ds)) := (rfl)

def appO (i : Nat) (rv : R) (e : FE.Env) : Option (List D) → OS
  | some ds => if ds.length < 1000000 then nxO (setOwn e i (ds ++ [rv.fz])) else .bad
  | none => .bad
def appK (i : Nat) (rv : R) (e : FE.Env) : OS := appO i rv e (e[i]?.bind Own)
def appB (i : Nat) (ov : FE.Env → OE) (env : FE.Env) : Bool → OS
  | true => (ov env).bindS (appK i)
  | false => .bad
theorem e_app (i : Nat) (ov : FE.Env → OE) (env : FE.Env) : sApp i ov env = appB i ov env (env[i]?.bind Own).isSome := by
  unfold sApp appB
  cases (env[i]?.bind Own).isSome with
  | false => rfl
  | true =>
    rw [if_pos rfl]
    dsimp only
    congr 1
theorem e_appB (i : Nat) (ov : FE.Env → OE) (env : FE.Env) : appB i ov env true = (ov env).bindS (appK i) := (rfl)
theorem e_appK (i : Nat) (rv : R) (e : FE.Env) : appK i rv e = appO i rv e (e[i]?.bind Own) := (rfl)
theorem e_appO (i : Nat) (rv : R) (e : FE.Env) (ds : List D) : appO i rv e (some ds) = if ds.length < 1000000 then nxO (setOwn e i (ds ++ [rv.fz])) else .bad := (rfl)

def parK (i j : Nat) (d e : D) (e1 : FE.Env) : Bool → Bool → OS
  | true, true => .nx ((e1.set i (.sh d)).set j (.sh e))
  | _, _ => .bad
def parA (i j : Nat) : OA → OS
  | .ok [d, e] e1 => parK i j d e e1 (noIo e1[i]?) (noIo e1[j]?)
  | .exc x e1 => .exc x e1
  | _ => .bad
theorem e_par (i j : Nat) (os : FE.Env → OA) (env : FE.Env) : sPar i j os env = parA i j (os env) := by
  unfold sPar parA parK
  rcases os env with ⟨ds, e⟩ | ⟨x, e⟩ | _
  · rcases ds with _ | ⟨a, _ | ⟨b, _ | ⟨c, r⟩⟩⟩ <;> try rfl
    dsimp only
    cases noIo e[i]? <;> cases noIo e[j]? <;> rfl
  · rfl
  · rfl
theorem e_parA (i j : Nat) (d e : D) (e1 : FE.Env) : parA i j (.ok [d, e] e1) = parK i j d e e1 (noIo e1[i]?) (noIo e1[j]?) := (rfl)
theorem e_parK (i j : Nat) (d e : D) (e1 : FE.Env) : parK i j d e e1 true true = .nx ((e1.set i (.sh d)).set j (.sh e)) := (rfl)

def okI (o : Option (List D)) (e : FE.Env) : OI := match o with
  | some ds => .ok ds e
  | none => .bad
def iValK (r : R) (e : FE.Env) : OI := okI (itemsD r.fz) e
def zpD : List D → Option (List D)
  | [.lst ds, .lst es] => some (zipD ds es)
  | [.tup ds, .tup es] => some (zipD ds es)
  | _ => none
def iZpK (ds : List D) (e : FE.Env) : OI := okI (zpD ds) e
def rvD : D → Option (List D)
  | .lst ds => some ds.reverse
  | .tup ds => some ds.reverse
  | _ => none
def iRvK (r : R) (e : FE.Env) : OI := okI (rvD r.fz) e
def rg1D : List D → Option (List D)
  | [.int j] => if -(2 ^ 62) ≤ j ∧ j < 2 ^ 62 then some (rngD 0 j.toNat) else none
  | _ => none
def iRg1K (ds : List D) (e : FE.Env) : OI := okI (rg1D ds) e
def rg2D : List D → Option (List D)
  | [.int i, .int j] => if -(2 ^ 62) ≤ i ∧ i < 2 ^ 62 ∧ -(2 ^ 62) ≤ j ∧ j < 2 ^ 62 then some (rngD i (j - i).toNat) else none
  | _ => none
def iRg2K (ds : List D) (e : FE.Env) : OI := okI (rg2D ds) e
theorem e_okI (ds : List D) (e : FE.Env) : okI (some ds) e = .ok ds e := (rfl)
theorem e_iVal (oa : FE.Env → OE) (env : FE.Env) : iVal oa env = (oa env).bindI iValK := by
  unfold iVal
  all_goals congr 1
theorem e_iValK (r : R) (e : FE.Env) : iValK r e = okI (itemsD r.fz) e := (rfl)
theorem e_items_lst (ds : List D) : itemsD (.lst ds) = some ds := (rfl)
theorem e_items_tup (ds : List D) : itemsD (.tup ds) = some ds := (rfl)
theorem e_items_str (x : PySem.Str) : itemsD (.str x) = some (x.cps.toList.map fun c => .str ⟨#[c]⟩) := (rfl)
theorem e_iZp (os : FE.Env → OA) (env : FE.Env) : iZp os env = (os env).bindI iZpK := by
  unfold iZp
  congr 1
  funext ds e
  unfold iZpK zpD
  split
  · rfl
  · rfl
  · first
    | rfl
    | (rename_i h1 h2
       split
       · exact absurd rfl (h1 _ _)
       · exact absurd rfl (h2 _ _)
       · rfl)
theorem e_iZpK (ds : List D) (e : FE.Env) : iZpK ds e = okI (zpD ds) e := (rfl)
theorem e_zp_l (ds es : List D) : zpD [.lst ds, .lst es] = some (zipD ds es) := (rfl)
theorem e_zp_t (ds es : List D) : zpD [.tup ds, .tup es] = some (zipD ds es) := (rfl)
theorem e_iRv (oa : FE.Env → OE) (env : FE.Env) : iRv oa env = (oa env).bindI iRvK := by
  unfold iRv
  congr 1
  funext r e
  unfold iRvK rvD
  cases r.fz <;> rfl
theorem e_iRvK (r : R) (e : FE.Env) : iRvK r e = okI (rvD r.fz) e := (rfl)
theorem e_rv_l (ds : List D) : rvD (.lst ds) = some ds.reverse := (rfl)
theorem e_rv_t (ds : List D) : rvD (.tup ds) = some ds.reverse := (rfl)
theorem e_iRg1 (os : FE.Env → OA) (env : FE.Env) : iRg1 os env = (os env).bindI iRg1K := by
  unfold iRg1
  congr 1
  funext ds e
  unfold iRg1K rg1D
  split
  · split
    · first
      | rfl
      | (rename_i c
         show _ = okI (if _ then _ else _) e
         rw [if_pos c]
         rfl)
    · first
      | rfl
      | (rename_i c
         show _ = okI (if _ then _ else _) e
         rw [if_neg c]
         rfl)
  · first
    | rfl
    | (rename_i h1
       split
       · exact absurd rfl (h1 _)
       · rfl)
theorem e_iRg1K (ds : List D) (e : FE.Env) : iRg1K ds e = okI (rg1D ds) e := (rfl)
theorem e_rg1 (j : Int) : rg1D [.int j] = if -(2 ^ 62) ≤ j ∧ j < 2 ^ 62 then some (rngD 0 j.toNat) else none := (rfl)
theorem e_iRg2 (os : FE.Env → OA) (env : FE.Env) : iRg2 os env = (os env).bindI iRg2K := by
  unfold iRg2
  congr 1
  funext ds e
  unfold iRg2K rg2D
  split
  · split
    · first
      | rfl
      | (rename_i c
         show _ = okI (if _ then _ else _) e
         rw [if_pos c]
         rfl)
    · first
      | rfl
      | (rename_i c
         show _ = okI (if _ then _ else _) e
         rw [if_neg c]
         rfl)
  · first
    | rfl
    | (rename_i h1
       split
       · exact absurd rfl (h1 _ _)
       · rfl)
theorem e_iRg2K (ds : List D) (e : FE.Env) : iRg2K ds e = okI (rg2D ds) e := (rfl)
theorem e_rg2 (i j : Int) : rg2D [.int i, .int j] = if -(2 ^ 62) ≤ i ∧ i < 2 ^ 62 ∧ -(2 ^ 62) ≤ j ∧ j < 2 ^ 62 then some (rngD i (j - i).toNat) else none := (rfl)

def forK (g : D → FE.Env → Option FE.Env) (body : FE.Env → OS) (ds : List D) (e : FE.Env) : OS := forL g body ds e
theorem e_for (oi : FE.Env → OI) (g : D → FE.Env → Option FE.Env) (body : FE.Env → OS) (env : FE.Env) : sFor oi g body env = (oi env).bindS (forK g body) := (rfl)
theorem e_forK (g : D → FE.Env → Option FE.Env) (body : FE.Env → OS) (ds : List D) (e : FE.Env) : forK g body ds e = forL g body ds e := (rfl)
theorem e_for_nil (g : D → FE.Env → Option FE.Env) (body : FE.Env → OS) (e : FE.Env) : forL g body [] e = .nx e := (rfl)

def forS (g : D → FE.Env → Option FE.Env) (body : FE.Env → OS) (ds : List D) : OS → OS
  | .nx e => forL g body ds e
  | .cnt e => forL g body ds e
  | .brk e => .nx e
  | .ret r e => .ret r e
  | .exc x e => .exc x e
  | .bad => .bad
def forG (g : D → FE.Env → Option FE.Env) (body : FE.Env → OS) (ds : List D) : Option FE.Env → OS
  | some e => forS g body ds (body e)
  | none => .bad
theorem e_for_cons (g : D → FE.Env → Option FE.Env) (body : FE.Env → OS) (d : D) (ds : List D) (e : FE.Env) : forL g body (d :: ds) e = forG g body ds (g d e) := by
  rw [forL]
  unfold forG forS
  cases g d e <;> rfl
theorem e_forG (g : D → FE.Env → Option FE.Env) (body : FE.Env → OS) (ds : List D) (e : FE.Env) : forG g body ds (some e) = forS g body ds (body e) := (rfl)
theorem e_forS_nx (g : D → FE.Env → Option FE.Env) (body : FE.Env → OS) (ds : List D) (e : FE.Env) : forS g body ds (.nx e) = forL g body ds e := (rfl)
theorem e_forS_cnt (g : D → FE.Env → Option FE.Env) (body : FE.Env → OS) (ds : List D) (e : FE.Env) : forS g body ds (.cnt e) = forL g body ds e := (rfl)
theorem e_forS_brk (g : D → FE.Env → Option FE.Env) (body : FE.Env → OS) (ds : List D) (e : FE.Env) : forS g body ds (.brk e) = .nx e := (rfl)
theorem e_forS_ret (g : D → FE.Env → Option FE.Env) (body : FE.Env → OS) (ds : List D) (r : R) (e : FE.Env) : forS g body ds (.ret r e) = .ret r e := (rfl)
theorem e_forS_exc (g : D → FE.Env → Option FE.Env) (body : FE.Env → OS) (ds : List D) (x : Xc) (e : FE.Env) : forS g body ds (.exc x e) = .exc x e := (rfl)

def gvB (i : Nat) (d : D) (env : FE.Env) : Bool → Option FE.Env
  | true => some (env.set i (.sh d))
  | false => none
theorem e_gVar (i : Nat) (d : D) (env : FE.Env) : gVar i d env = gvB i d env (noIo env[i]?) := by
  unfold gVar gvB
  cases noIo env[i]? <;> rfl
theorem e_gvB (i : Nat) (d : D) (env : FE.Env) : gvB i d env true = some (env.set i (.sh d)) := (rfl)
theorem e_gTup (n : Nat) (f : List D → FE.Env → Option FE.Env) (ds : List D) (env : FE.Env) : gTupF n f (.tup ds) env = if ds.length = n then f ds env else none := (rfl)
theorem e_gTupW (n : Nat) (f : List D → FE.Env → Option FE.Env) (ds : List D) (env : FE.Env) : gTupF n f (.wtp ds) env = if ds.length = n then f ds env else none := (rfl)
theorem e_gCons (f : D → FE.Env → Option FE.Env) (fs : List D → FE.Env → Option FE.Env) (d : D) (ds : List D) (env : FE.Env) : gConsF f fs (d :: ds) env = (f d env).bind (fs ds) := (rfl)
theorem e_gNil (env : FE.Env) : gNilF [] env = some env := (rfl)

def lcR (ws : List Nat) (e1 : FE.Env) : Option (List D × FE.Env) → OE
  | some (acc, e2) => if (ws.all fun v => noIo e2[v]?) = true then .ok (.ow acc) (restE e1 e2 ws) else .bad
  | none => .bad
end FE

namespace FE
open PySem PySem.Spec PyProof.Rows L2

theorem d_add_i (i j : Int) : addF (.int i) (.int j) = some (.sh (.int (i + j))) := (rfl)
theorem d_add_s (x y : PySem.Str) : addF (.str x) (.str y) = if x.length + y.length ≤ 1000000 then some (.sh (.str (x ++ y))) else none := (rfl)
theorem d_add_l (xs ys : List D) : addF (.lst xs) (.lst ys) = if xs.length + ys.length ≤ 1000000 then some (.ow (xs ++ ys)) else none := (rfl)
theorem d_add_t (xs ys : List D) : addF (.tup xs) (.tup ys) = if xs.length + ys.length ≤ 1000000 then some (.sh (.tup (xs ++ ys))) else none := (rfl)
theorem d_mul_i (i j : Int) : mulF' (.int i) (.int j) = if i.natAbs.log2 + j.natAbs.log2 < 1000000 then some (.sh (.int (i * j))) else none := (rfl)
theorem d_mul_s (x : PySem.Str) (n : Int) : mulF' (.str x) (.int n) = if 0 ≤ n ∧ n ≤ 1000 ∧ x.length ≤ 1000 then some (.sh (.str (Txt.mul x n))) else none := (rfl)
theorem d_mul_l (ds : List D) (n : Int) : mulF' (.lst ds) (.int n) = if 0 ≤ n ∧ n ≤ 1000 ∧ ds.length ≤ 1000 then some (.ow (List.replicate n.toNat ds).flatten) else none := (rfl)
theorem d_fdiv (i j : Int) : fdivF (.int i) (.int j) = if 0 < j ∧ j.natAbs.log2 < 9000 then some (.sh (.int (i / j))) else none := (rfl)
theorem d_mod (i j : Int) : modF (.int i) (.int j) = if 0 < j then some (.sh (.int (i % j))) else none := (rfl)
theorem d_pow (i j : Int) : powF (.int i) (.int j) = if 0 ≤ j ∧ j ≤ 1000000 ∧ i.natAbs < 2 ^ 64 then some (.sh (.int (i ^ j.toNat))) else none := (rfl)
theorem d_neg (i : Int) : negF (.int i) = some (.sh (.int (-i))) := (rfl)
theorem d_iI (f : Int → Int → Int) (i j : Int) : iI f (.int i) (.int j) = some (.sh (.int (f i j))) := (rfl)
theorem d_ord_i (fi : Int → Int → Bool) (fs : PySem.Str → PySem.Str → Bool) (i j : Int) : ordF fi fs (.int i) (.int j) = some (.sh (.bl (fi i j))) := (rfl)
theorem d_ord_s (fi : Int → Int → Bool) (fs : PySem.Str → PySem.Str → Bool) (i j : PySem.Str) : ordF fi fs (.str i) (.str j) = some (.sh (.bl (fs i j))) := (rfl)
theorem d_eq_i (i j : Int) : eqF (.int i) (.int j) = some (.sh (.bl (decide (i = j)))) := (rfl)
theorem d_eq_s (i j : PySem.Str) : eqF (.str i) (.str j) = some (.sh (.bl (decide (i = j)))) := (rfl)
theorem d_ne_i (i j : Int) : neF (.int i) (.int j) = some (.sh (.bl (!decide (i = j)))) := (rfl)
theorem d_ne_s (i j : PySem.Str) : neF (.str i) (.str j) = some (.sh (.bl (!decide (i = j)))) := (rfl)
theorem d_len_l (ds : List D) : lenF [.lst ds] = some (.sh (.int ds.length)) := (rfl)
theorem d_len_t (ds : List D) : lenF [.tup ds] = some (.sh (.int ds.length)) := (rfl)
theorem d_abs (i : Int) : intF (fun i => if i < 0 then -i else i) [.int i] = some (.sh (.int (i.natAbs : Int))) := by
  show some (R.sh (D.int (if i < 0 then -i else i))) = _
  congr 3
  split <;> omega
theorem d_gcd (a b : Int) : gcdF [.int a, .int b] = some (.sh (.int ((Nat.gcd a.natAbs b.natAbs : Nat) : Int))) := (rfl)
theorem d_max2 (i j : Int) : maxF [.int i, .int j] = some (.sh (.int (mx i j))) := (rfl)
theorem d_min2 (i j : Int) : minF [.int i, .int j] = some (.sh (.int (mn i j))) := (rfl)
theorem d_tup_l (ds : List D) : tupF [.lst ds] = some (.sh (.tup ds)) := (rfl)
theorem d_tup_t (ds : List D) : tupF [.tup ds] = some (.sh (.tup ds)) := (rfl)

def atR : Option D → Option R
  | some x => some (.sh x)
  | none => none
theorem d_ix_l (ds : List D) (k : Int) : ixF (.lst ds) (.int k) = atR (L2.atI ds k) := by
  show (L2.atI ds k).map R.sh = _
  cases L2.atI ds k <;> rfl
theorem d_ix_t (ds : List D) (k : Int) : ixF (.tup ds) (.int k) = atR (L2.atI ds k) := by
  show (L2.atI ds k).map R.sh = _
  cases L2.atI ds k <;> rfl
theorem d_atR (x : D) : atR (some x) = some (.sh x) := (rfl)
theorem at_0 {α : Type} (x : α) (xs : List α) : L2.atI (x :: xs) 0 = some x := by
  unfold L2.atI L2.ixN
  rw [if_pos (by omega), if_pos (by rw [List.length_cons]; omega)]
  rfl
theorem at_1 {α : Type} (x y : α) (xs : List α) : L2.atI (x :: y :: xs) 1 = some y := by
  unfold L2.atI L2.ixN
  rw [if_pos (by omega), if_pos (by rw [List.length_cons, List.length_cons]; omega)]
  rfl
theorem at_2 {α : Type} (x y z : α) (xs : List α) : L2.atI (x :: y :: z :: xs) 2 = some z := by
  unfold L2.atI L2.ixN
  rw [if_pos (by omega), if_pos (by rw [List.length_cons, List.length_cons, List.length_cons]; omega)]
  rfl
theorem ixn_0 {n : Nat} : L2.ixN (n + 1) 0 = some 0 := by
  unfold L2.ixN
  rw [if_pos (by omega), if_pos (by omega)]
  rfl
theorem ixn_1 {n : Nat} : L2.ixN (n + 2) 1 = some 1 := by
  unfold L2.ixN
  rw [if_pos (by omega), if_pos (by omega)]
  rfl
theorem ixn_2 {n : Nat} : L2.ixN (n + 3) 2 = some 2 := by
  unfold L2.ixN
  rw [if_pos (by omega), if_pos (by omega)]
  rfl

def outR (r : R) : Option (List D) → OC
  | some es => .ret r es
  | none => .bad
def outX (x : Xc) : Option (List D) → OC
  | some es => .exc x es
  | none => .bad
def ioS : Option SV → Option (List D)
  | some (.io es) => some es
  | _ => none
theorem e_run (n : Nat) (io : Option Nat) (body : FE.Env → OS) (ds : List D) : runF n io body ds = finS io (body (argEnv io ds ++ List.replicate (n - ds.length) SV.no)) := (rfl)
theorem e_fin_ret (io : Option Nat) (r : R) (e : FE.Env) : finS io (.ret r e) = outR r (outOf io e) := by
  unfold finS outR
  rfl
theorem e_fin_nx (io : Option Nat) (e : FE.Env) : finS io (.nx e) = outR (.sh .non) (outOf io e) := by
  unfold finS outR
  rfl
theorem e_fin_exc (io : Option Nat) (x : Xc) (e : FE.Env) : finS io (.exc x e) = outX x (outOf io e) := by
  unfold finS outX
  rfl
theorem e_outR (r : R) (es : List D) : outR r (some es) = .ret r es := (rfl)
theorem e_outX (x : Xc) (es : List D) : outX x (some es) = .exc x es := (rfl)
theorem e_out_none (e : FE.Env) : outOf none e = some [] := (rfl)
theorem e_out_some (p : Nat) (e : FE.Env) : outOf (some p) e = ioS e[p]? := by
  unfold outOf ioS
  rfl
theorem e_ioS (es : List D) : ioS (some (.io es)) = some es := (rfl)
theorem e_arg_none (ds : List D) : argEnv none ds = ds.map SV.sh := by
  cases ds <;> rfl
theorem e_arg_nil (p : Nat) : argEnv (some p) [] = [] := (rfl)
theorem e_arg_0 (d : D) (ds : List D) : argEnv (some 0) (d :: ds) = ioD d :: ds.map SV.sh := (rfl)
theorem e_arg_s (p : Nat) (d : D) (ds : List D) : argEnv (some (p + 1)) (d :: ds) = .sh d :: argEnv (some p) ds := (rfl)
theorem e_ioD (es : List D) : ioD (.lst es) = .io es := (rfl)

def calO (e : FE.Env) : OC → OE
  | .ret r _ => .ok r e
  | .exc x _ => .exc x e
  | .bad => .bad
def calK2 (f : List D → OC) (n m : Nat) (gD : List D → List D → List D) (ds es : List D) (e : FE.Env) : OE := if ds.length = n ∧ es.length = m then calO e (f (gD ds es)) else .bad
def calK1 (f : List D → OC) (n m : Nat) (gD : List D → List D → List D) (ok : FE.Env → OA) (ds : List D) (e : FE.Env) : OE := (ok e).bindE (calK2 f n m gD ds)
theorem e_call (f : List D → OC) (n m : Nat) (gD : List D → List D → List D) (oa ok : FE.Env → OA) (env : FE.Env) : oCall f n m gD oa ok env = (oa env).bindE (calK1 f n m gD ok) := by
  unfold oCall
  all_goals congr 1
theorem e_calK1 (f : List D → OC) (n m : Nat) (gD : List D → List D → List D) (ok : FE.Env → OA) (ds : List D) (e : FE.Env) : calK1 f n m gD ok ds e = (ok e).bindE (calK2 f n m gD ds) := (rfl)
theorem e_calK2 (f : List D → OC) (n m : Nat) (gD : List D → List D → List D) (ds es : List D) (e : FE.Env) : calK2 f n m gD ds es e = if ds.length = n ∧ es.length = m then calO e (f (gD ds es)) else .bad := (rfl)
theorem e_calO_ret (e : FE.Env) (r : R) (out : List D) : calO e (.ret r out) = .ok r e := (rfl)
theorem e_calO_exc (e : FE.Env) (x : Xc) (out : List D) : calO e (.exc x out) = .exc x e := (rfl)

def cpS (r : R) : Option FE.Env → OE
  | some e => .ok r e
  | none => .bad
def cpX (x : Xc) : Option FE.Env → OE
  | some e => .exc x e
  | none => .bad
def cpC (e : FE.Env) : Option AD → OC → OE
  | some (.slot i), .ret r out => cpS r (setOwn e i out)
  | some (.slot i), .exc x out => cpX x (setOwn e i out)
  | _, .ret r _ => .ok r e
  | _, .exc x _ => .exc x e
  | _, .bad => .bad
def cpD (f : List D → OC) (p : Nat) (as : List AD) (e : FE.Env) : Option (List D) → OE
  | some ds => cpC e as[p]? (f ds)
  | none => .bad
def cpK (f : List D → OC) (n p : Nat) (as : List AD) (e : FE.Env) : OE := if as.length = n ∧ p < n ∧ adPl p as = true then cpD f p as e (adsD e as) else .bad
def gvK2 (r : R) (as : List AD) (e : FE.Env) : OG := .ok (.v r.fz :: as) e
def gvK1 (og : FE.Env → OG) (r : R) (e : FE.Env) : OG := (og e).bind (gvK2 r)
def gsK (i : Nat) (as : List AD) (e : FE.Env) : OG := .ok (.slot i :: as) e
def gsB (i : Nat) (og : FE.Env → OG) (env : FE.Env) : Bool → OG
  | true => (og env).bind (gsK i)
  | false => .bad
def goK (r : R) (e : FE.Env) : OG := match r with
  | .ow ds => .ok [.own ds] e
  | .sh _ => .bad
def adO : Option (List D) → Option D
  | some ds => some (.lst ds)
  | none => none
def adC (env : FE.Env) (as : List AD) : Option D → Option (List D)
  | some d => (match adsD env as with
    | some ds => some (d :: ds)
    | none => none)
  | none => none
def adC2 (d : D) : Option (List D) → Option (List D)
  | some ds => some (d :: ds)
  | none => none
theorem e_callP (f : List D → OC) (n p : Nat) (og : FE.Env → OG) (env : FE.Env) : oCallP f n p og env = (og env).bindE (cpK f n p) := by
  unfold oCallP
  congr 1
  funext as e
  unfold cpK
  split
  · cases adsD e as with
    | none => rfl
    | some ds =>
      unfold cpD cpC cpS cpX
      dsimp only
      cases f ds with
      | bad =>
        cases as[p]? with
        | none => rfl
        | some a => cases a <;> rfl
      | ret r out =>
        cases as[p]? with
        | none => rfl
        | some a => cases a <;> rfl
      | exc r out =>
        cases as[p]? with
        | none => rfl
        | some a => cases a <;> rfl
  · rfl
theorem e_cpK (f : List D → OC) (n p : Nat) (as : List AD) (e : FE.Env) : cpK f n p as e = if as.length = n ∧ p < n ∧ adPl p as = true then cpD f p as e (adsD e as) else .bad := (rfl)
theorem e_cpD (f : List D → OC) (p : Nat) (as : List AD) (e : FE.Env) (ds : List D) : cpD f p as e (some ds) = cpC e as[p]? (f ds) := (rfl)
theorem e_cpC_s (e : FE.Env) (i : Nat) (r : R) (out : List D) : cpC e (some (.slot i)) (.ret r out) = cpS r (setOwn e i out) := (rfl)
theorem e_cpC_x (e : FE.Env) (i : Nat) (x : Xc) (out : List D) : cpC e (some (.slot i)) (.exc x out) = cpX x (setOwn e i out) := (rfl)
theorem e_cpC_o (e : FE.Env) (es : List D) (r : R) (out : List D) : cpC e (some (.own es)) (.ret r out) = .ok r e := (rfl)
theorem e_cpS (r : R) (e : FE.Env) : cpS r (some e) = .ok r e := (rfl)
theorem e_cpX (x : Xc) (e : FE.Env) : cpX x (some e) = .exc x e := (rfl)
theorem e_gnil (env : FE.Env) : oGnil env = .ok [] env := (rfl)
theorem e_gv (oa : FE.Env → OE) (og : FE.Env → OG) (env : FE.Env) : oGv oa og env = (oa env).bindG (gvK1 og) := (rfl)
theorem e_gvK1 (og : FE.Env → OG) (r : R) (e : FE.Env) : gvK1 og r e = (og e).bind (gvK2 r) := (rfl)
theorem e_gvK2 (r : R) (as : List AD) (e : FE.Env) : gvK2 r as e = .ok (.v r.fz :: as) e := (rfl)
theorem e_gs (i : Nat) (og : FE.Env → OG) (env : FE.Env) : oGs i og env = gsB i og env (here env[i]?) := by
  unfold oGs gsB
  cases here env[i]? <;> rfl
theorem e_gsB (i : Nat) (og : FE.Env → OG) (env : FE.Env) : gsB i og env true = (og env).bind (gsK i) := (rfl)
theorem e_gsK (i : Nat) (as : List AD) (e : FE.Env) : gsK i as e = .ok (.slot i :: as) e := (rfl)
theorem e_go (oa : FE.Env → OE) (env : FE.Env) : oGo oa env = (oa env).bindG goK := by
  unfold oGo
  all_goals congr 1
theorem e_goK (ds : List D) (e : FE.Env) : goK (.ow ds) e = .ok [.own ds] e := (rfl)
theorem e_ads_nil (env : FE.Env) : adsD env [] = some [] := (rfl)
theorem e_ads_cons (env : FE.Env) (a : AD) (as : List AD) : adsD env (a :: as) = adC env as (adD env a) := by
  show adsD env (a :: as) = _
  unfold adC
  rw [adsD]
  all_goals (cases adD env a <;> rfl)
theorem e_adC (env : FE.Env) (as : List AD) (d : D) : adC env as (some d) = adC2 d (adsD env as) := by
  unfold adC adC2
  rfl
theorem e_adC2 (d : D) (ds : List D) : adC2 d (some ds) = some (d :: ds) := (rfl)
theorem e_adD_v (env : FE.Env) (d : D) : adD env (.v d) = some d := (rfl)
theorem e_adD_s (env : FE.Env) (i : Nat) : adD env (.slot i) = adO (env[i]?.bind Own) := by
  unfold adD adO
  rfl
theorem e_adD_o (env : FE.Env) (ds : List D) : adD env (.own ds) = some (.lst ds) := (rfl)
theorem e_adO (ds : List D) : adO (some ds) = some (.lst ds) := (rfl)

def piK (r : R) (e : FE.Env) : OE := match r.fz with
  | .int i => .ok (.sh (.int i)) e
  | _ => .bad
def slO (f : D → Option Int → Option Int → Option R) (d : D) (e : FE.Env) : Option (Option Int) → Option (Option Int) → OE
  | some l, some h => okO (f d l h) e
  | _, _ => .bad
def slK3 (f : D → Option Int → Option Int → Option R) (r1 r2 r3 : R) (e : FE.Env) : OE := slO f r1.fz e (partO r2.fz) (partO r3.fz)
def slK2 (f : D → Option Int → Option Int → Option R) (oh : FE.Env → OE) (r1 r2 : R) (e : FE.Env) : OE := (oh e).bind (slK3 f r1 r2)
def slK1 (f : D → Option Int → Option Int → Option R) (ol oh : FE.Env → OE) (r1 : R) (e : FE.Env) : OE := (ol e).bind (slK2 f oh r1)
def s3O (e : FE.Env) : D → Option (Option Int) → Option (Option Int) → Option (Option Int) → OE
  | .lst ds, some l, some h, some c => if c = some 0 then .bad else .ok (.ow (pickL ds l h c)) e
  | _, _, _, _ => .bad
def s3K4 (r1 r2 r3 r4 : R) (e : FE.Env) : OE := s3O e r1.fz (partO r2.fz) (partO r3.fz) (partO r4.fz)
def s3K3 (oc : FE.Env → OE) (r1 r2 r3 : R) (e : FE.Env) : OE := (oc e).bind (s3K4 r1 r2 r3)
def s3K2 (oh oc : FE.Env → OE) (r1 r2 : R) (e : FE.Env) : OE := (oh e).bind (s3K3 oc r1 r2)
def s3K1 (ol oh oc : FE.Env → OE) (r1 : R) (e : FE.Env) : OE := (ol e).bind (s3K2 oh oc r1)
theorem e_pi (oa : FE.Env → OE) (env : FE.Env) : oPI oa env = (oa env).bind piK := (rfl)
theorem e_piK (i : Int) (e : FE.Env) : piK (.sh (.int i)) e = .ok (.sh (.int i)) e := (rfl)
theorem e_sl (f : D → Option Int → Option Int → Option R) (oa ol oh : FE.Env → OE) (env : FE.Env) : oSl f oa ol oh env = (oa env).bind (slK1 f ol oh) := by
  unfold oSl
  all_goals congr 1
theorem e_slK1 (f : D → Option Int → Option Int → Option R) (ol oh : FE.Env → OE) (r1 : R) (e : FE.Env) : slK1 f ol oh r1 e = (ol e).bind (slK2 f oh r1) := (rfl)
theorem e_slK2 (f : D → Option Int → Option Int → Option R) (oh : FE.Env → OE) (r1 r2 : R) (e : FE.Env) : slK2 f oh r1 r2 e = (oh e).bind (slK3 f r1 r2) := (rfl)
theorem e_slK3 (f : D → Option Int → Option Int → Option R) (r1 r2 r3 : R) (e : FE.Env) : slK3 f r1 r2 r3 e = slO f r1.fz e (partO r2.fz) (partO r3.fz) := (rfl)
theorem e_slO (f : D → Option Int → Option Int → Option R) (d : D) (e : FE.Env) (l h : Option Int) : slO f d e (some l) (some h) = okO (f d l h) e := (rfl)
theorem e_part_n : partO .non = some none := (rfl)
theorem e_part_i (i : Int) : partO (.int i) = some (some i) := (rfl)
theorem d_slice_l (ds : List D) (lo hi : Option Int) : sliceF (.lst ds) lo hi = some (.ow (cutL ds lo hi)) := (rfl)
theorem d_slice_t (ds : List D) (lo hi : Option Int) : sliceF (.tup ds) lo hi = some (.sh (.tup (cutL ds lo hi))) := (rfl)
theorem e_sl3 (oa ol oh oc : FE.Env → OE) (env : FE.Env) : oSl3 oa ol oh oc env = (oa env).bind (s3K1 ol oh oc) := by
  unfold oSl3
  all_goals congr 1
theorem e_s3K1 (ol oh oc : FE.Env → OE) (r1 : R) (e : FE.Env) : s3K1 ol oh oc r1 e = (ol e).bind (s3K2 oh oc r1) := (rfl)
theorem e_s3K2 (oh oc : FE.Env → OE) (r1 r2 : R) (e : FE.Env) : s3K2 oh oc r1 r2 e = (oh e).bind (s3K3 oc r1 r2) := (rfl)
theorem e_s3K3 (oc : FE.Env → OE) (r1 r2 r3 : R) (e : FE.Env) : s3K3 oc r1 r2 r3 e = (oc e).bind (s3K4 r1 r2 r3) := (rfl)
theorem e_s3K4 (r1 r2 r3 r4 : R) (e : FE.Env) : s3K4 r1 r2 r3 r4 e = s3O e r1.fz (partO r2.fz) (partO r3.fz) (partO r4.fz) := (rfl)
theorem e_s3O (e : FE.Env) (ds : List D) (l h c : Option Int) : s3O e (.lst ds) (some l) (some h) (some c) = if c = some 0 then .bad else .ok (.ow (pickL ds l h c)) e := (rfl)

def lcB (f : D → FE.Env → Option FE.Env) (ot : FE.Env → OT) (oe : FE.Env → OE) (ws : List Nat) (ds : List D) (e1 : FE.Env) : Bool → OE
  | true => lcR ws e1 (lcL f ot oe ws ds (wipeE e1 ws) [])
  | false => .bad
def lcK (f : D → FE.Env → Option FE.Env) (ot : FE.Env → OT) (oe : FE.Env → OE) (ws : List Nat) (ds : List D) (e1 : FE.Env) : OE := lcB f ot oe ws ds e1 (ws.all (okW e1))
theorem e_lc (oi : FE.Env → OI) (f : D → FE.Env → Option FE.Env) (ot : FE.Env → OT) (oe : FE.Env → OE) (ws : List Nat) (env : FE.Env) : oLc oi f ot oe ws env = (oi env).bindE (lcK f ot oe ws) := by
  unfold oLc
  congr 1
  funext ds e
  unfold lcK lcB lcR
  cases ws.all (okW e) with
  | false => rfl
  | true =>
    rw [if_pos rfl]
    all_goals (try dsimp only)
    all_goals (cases lcL f ot oe ws ds (wipeE e ws) [] <;> rfl)
theorem e_lcK (f : D → FE.Env → Option FE.Env) (ot : FE.Env → OT) (oe : FE.Env → OE) (ws : List Nat) (ds : List D) (e1 : FE.Env) : lcK f ot oe ws ds e1 = lcB f ot oe ws ds e1 (ws.all (okW e1)) := (rfl)
theorem e_lcB (f : D → FE.Env → Option FE.Env) (ot : FE.Env → OT) (oe : FE.Env → OE) (ws : List Nat) (ds : List D) (e1 : FE.Env) : lcB f ot oe ws ds e1 true = lcR ws e1 (lcL f ot oe ws ds (wipeE e1 ws) []) := (rfl)
theorem e_lcR (ws : List Nat) (e1 e2 : FE.Env) (acc : List D) : lcR ws e1 (some (acc, e2)) = if (ws.all fun v => noIo e2[v]?) = true then .ok (.ow acc) (restE e1 e2 ws) else .bad := (rfl)
theorem e_yes (env : FE.Env) : oYes env = .ok true env := (rfl)

theorem e_okW (env : FE.Env) (v : Nat) : okW env v = (match env[v]? with
  | some .no => true
  | some (.sh _) => true
  | _ => false) := rfl
inductive A2 (P : D → D → Prop) : List D → List D → Prop
  | nil : A2 P [] []
  | cons {d e : D} {ds es : List D} : P d e → A2 P ds es → A2 P (d :: ds) (e :: es)
theorem A2.length {P : D → D → Prop} : ∀ {ds es : List D}, A2 P ds es → es.length = ds.length
  | _, _, .nil => rfl
  | _, _, .cons _ r => congrArg Nat.succ (A2.length r)
/-- a comprehension whose turns keep I and tell what P says -/
theorem lcL_inv {f : D → FE.Env → Option FE.Env} {ot : FE.Env → OT} {oe : FE.Env → OE} {ws : List Nat} (I : Nat → FE.Env → Prop) (P : D → D → Prop) : ∀ (ds : List D) (k : Nat) (env : FE.Env) (acc : List D), acc.length + ds.length ≤ 1000000 → I k env →
    (∀ k' d env, k ≤ k' → k' < k + ds.length → d ∈ ds → I k' env → ∃ e1 e2 e3 r, f d env = some e1 ∧ ot e1 = .ok true e2 ∧ oe e2 = .ok r e3 ∧ (ws.all fun v => noIo e3[v]?) = true ∧ I (k' + 1) (wipeE e3 ws) ∧ P d r.fz) →
    ∃ rs env', lcL f ot oe ws ds env acc = some (acc ++ rs, env') ∧ I (k + ds.length) env' ∧ A2 P ds rs
  | [], k, env, acc, _, hI, _ => ⟨[], env, by rw [lcL, List.append_nil], hI, .nil⟩
  | d :: ds, k, env, acc, hl, hI, h => by
    obtain ⟨e1, e2, e3, r, h1, h2, h3, h4, h5, h6⟩ := h k d env (Nat.le_refl k) (by rw [List.length_cons]; omega) List.mem_cons_self hI
    obtain ⟨rs, env', q1, q2, q3⟩ := lcL_inv I P ds (k + 1) (wipeE e3 ws) (acc ++ [r.fz]) (by rw [List.length_append, List.length_singleton]; rw [List.length_cons] at hl; omega) h5 (fun k' d env h1 h2 hd => h k' d env (by omega) (by rw [List.length_cons]; omega) (List.mem_cons_of_mem _ hd))
    refine ⟨r.fz :: rs, env', ?_, by rw [List.length_cons]; rw [show k + (ds.length + 1) = k + 1 + ds.length by omega]; exact q2, .cons h6 q3⟩
    rw [lcL, h1]
    dsimp only
    rw [h2]
    dsimp only
    rw [h3]
    dsimp only
    rw [if_pos ⟨h4, by rw [List.length_cons] at hl; omega⟩, q1, List.append_assoc]
    rfl
/-- a for whose turns keep I, or end -/
theorem forL_inv {g : D → FE.Env → Option FE.Env} {body : FE.Env → OS} (I : Nat → FE.Env → Prop) : ∀ (ds : List D) (k : Nat) (env : FE.Env), I k env →
    (∀ k' d env, k ≤ k' → k' < k + ds.length → d ∈ ds → I k' env → ∃ e1 e2, g d env = some e1 ∧ (body e1 = .nx e2 ∨ body e1 = .cnt e2) ∧ I (k' + 1) e2) →
    ∃ env', forL g body ds env = .nx env' ∧ I (k + ds.length) env'
  | [], k, env, hI, _ => ⟨env, rfl, hI⟩
  | d :: ds, k, env, hI, h => by
    obtain ⟨e1, e2, h1, h2, h3⟩ := h k d env (Nat.le_refl k) (by rw [List.length_cons]; omega) List.mem_cons_self hI
    obtain ⟨env', q1, q2⟩ := forL_inv I ds (k + 1) e2 h3 (fun k' d env h1 h2 hd => h k' d env (by omega) (by rw [List.length_cons]; omega) (List.mem_cons_of_mem _ hd))
    refine ⟨env', ?_, by rw [List.length_cons]; rw [show k + (ds.length + 1) = k + 1 + ds.length by omega]; exact q2⟩
    rw [forL, h1]
    dsimp only
    rcases h2 with h2 | h2 <;> rw [h2] <;> exact q1
/-- .. by the items gone over -/
theorem forL_ind {g : D → FE.Env → Option FE.Env} {body : FE.Env → OS} (I : List D → FE.Env → Prop) : ∀ (ds done : List D) (env : FE.Env), I done env →
    (∀ done d env, d ∈ ds → I done env → ∃ e1 e2, g d env = some e1 ∧ (body e1 = .nx e2 ∨ body e1 = .cnt e2) ∧ I (done ++ [d]) e2) →
    ∃ env', forL g body ds env = .nx env' ∧ I (done ++ ds) env'
  | [], done, env, hI, _ => ⟨env, rfl, by rw [List.append_nil]; exact hI⟩
  | d :: ds, done, env, hI, h => by
    obtain ⟨e1, e2, h1, h2, h3⟩ := h done d env List.mem_cons_self hI
    obtain ⟨env', q1, q2⟩ := forL_ind I ds (done ++ [d]) e2 h3 (fun done d env hd => h done d env (List.mem_cons_of_mem _ hd))
    refine ⟨env', ?_, by rw [show done ++ d :: ds = done ++ [d] ++ ds by simp]; exact q2⟩
    rw [forL, h1]
    dsimp only
    rcases h2 with h2 | h2 <;> rw [h2] <;> exact q1
end FE

namespace FE
open PySem PySem.Spec PyProof.Rows L2
theorem log_le {n k : Nat} (h : n < 2 ^ k) : n.log2 ≤ k := by
  by_cases z : n = 0
  · subst z
    rw [Nat.log2_zero]
    omega
  · exact Nat.le_of_lt ((Nat.log2_lt z).mpr h)
theorem big_log {i : Int} (h1 : -(10 ^ 300) ≤ i) (h2 : i ≤ 10 ^ 300) : i.natAbs.log2 ≤ 1000 := by
  have h : i.natAbs ≤ 10 ^ 300 := by omega
  exact log_le (Nat.lt_of_le_of_lt h (by decide +kernel))
theorem mul_ok {i j : Int} (h1 : -(10 ^ 300) ≤ i) (h2 : i ≤ 10 ^ 300) (h3 : -(10 ^ 300) ≤ j) (h4 : j ≤ 10 ^ 300) : i.natAbs.log2 + j.natAbs.log2 < 1000000 := by
  have a := big_log h1 h2
  have b := big_log h3 h4
  omega
theorem div_ok {j : Int} (h1 : 0 < j) (h2 : j ≤ 10 ^ 300) : 0 < j ∧ j.natAbs.log2 < 9000 := by
  have a := big_log (i := j) (by omega) h2
  exact ⟨h1, by omega⟩
theorem pow_ok {i j : Int} (h1 : 0 ≤ j) (h2 : j ≤ 1000000) (h3 : -(2 ^ 63) ≤ i) (h4 : i ≤ 2 ^ 63) : 0 ≤ j ∧ j ≤ 1000000 ∧ i.natAbs < 2 ^ 64 := ⟨h1, h2, by omega⟩
theorem pow_ok' {i : Int} (h3 : -(2 ^ 63) ≤ i) (h4 : i ≤ 2 ^ 63) : i.natAbs < 2 ^ 64 := by omega
theorem log_64 : (Int.natAbs 64).log2 < 9000 := by decide +kernel
theorem mul_le_big {i j a b : Int} (h1 : -a ≤ i) (h2 : i ≤ a) (h3 : -b ≤ j) (h4 : j ≤ b) : -(a * b) ≤ i * j ∧ i * j ≤ a * b := by
  have ha : 0 ≤ a := by omega
  have hb : 0 ≤ b := by omega
  have k : (i * j).natAbs ≤ (a * b).natAbs := by
    rw [Int.natAbs_mul, Int.natAbs_mul]
    exact Nat.mul_le_mul (by omega) (by omega)
  have c : 0 ≤ a * b := Int.mul_nonneg ha hb
  omega
theorem d_pow_6 : powF (.int 10) (.int 6) = some (.sh (.int 1000000)) := by
  unfold powF
  dsimp only
  rw [if_pos (by decide +kernel)]
  rfl
theorem d_pow_12 : powF (.int 10) (.int 12) = some (.sh (.int 1000000000000)) := by
  unfold powF
  dsimp only
  rw [if_pos (by decide +kernel)]
  rfl
theorem d_pow_18 : powF (.int 10) (.int 18) = some (.sh (.int 1000000000000000000)) := by
  unfold powF
  dsimp only
  rw [if_pos (by decide +kernel)]
  rfl
theorem d_pow_30 : powF (.int 10) (.int 30) = some (.sh (.int 1000000000000000000000000000000)) := by
  unfold powF
  dsimp only
  rw [if_pos (by decide +kernel)]
  rfl
theorem abs_10 : Int.natAbs 10 < 2 ^ 64 := by decide +kernel
theorem rng_5 : rngD 0 5 = [.int 0, .int 1, .int 2, .int 3, .int 4] := rfl
/-! ### what can be shown -/
structure ShowOk (d : D) (b n : Nat) : Prop where
  pl : d.plain = true
  sh : d.pyd.showable = true
  ls : d.pyd.leavesShort 1921 = true
  bk : d.pyd.bulk ≤ b
  dp : d.pyd.depth ≤ n
theorem showInt {i : Int} (h1 : -(10 ^ 300) ≤ i) (h2 : i ≤ 10 ^ 300) : ShowOk (.int i) 0 0 where
  pl := by simp only [D.plain]
  sh := by
    have := big_log h1 h2
    simp only [D.pyd, PyData.showable]
    exact decide_eq_true (by omega)
  ls := by
    have := big_log h1 h2
    have e := int_text_length_le (a := i) (k := 1920) (by decide) (by omega)
    simp only [D.pyd, PyData.leavesShort, PyData.shown]
    refine decide_eq_true ?_
    rw [PySem.ofString_length]
    exact e
  bk := by simp only [D.pyd, PyData.bulk]; exact Nat.le_refl _
  dp := by simp only [D.pyd, PyData.depth]; exact Nat.le_refl _
theorem showAll {b n : Nat} : ∀ {ds : List D}, (∀ d ∈ ds, ShowOk d b n) → plainL ds = true ∧ PyData.showableAll (pydL ds) = true ∧ PyData.leavesShortAll 1921 (pydL ds) = true ∧ PyData.bulkAll (pydL ds) ≤ ds.length * (b + 1) ∧ PyData.depthAll (pydL ds) ≤ n
  | [], _ => ⟨by simp only [plainL], by simp only [pydL, PyData.showableAll], by simp only [pydL, PyData.leavesShortAll], by simp only [pydL, PyData.bulkAll]; omega, by simp only [pydL, PyData.depthAll]; omega⟩
  | d :: ds, h => by
    have h1 := h d List.mem_cons_self
    obtain ⟨a1, a2, a3, a4, a5⟩ := showAll (ds := ds) fun e he => h e (List.mem_cons_of_mem _ he)
    refine ⟨by simp only [plainL, h1.pl, a1, Bool.and_self], by simp only [pydL, PyData.showableAll, h1.sh, a2, Bool.and_self], by simp only [pydL, PyData.leavesShortAll, h1.ls, a3, Bool.and_self], ?_, ?_⟩
    · simp only [pydL, PyData.bulkAll, List.length_cons]
      have := h1.bk
      rw [Nat.succ_mul]
      omega
    · simp only [pydL, PyData.depthAll]
      have := h1.dp
      omega
theorem showLst {b n L : Nat} {ds : List D} (h : ∀ d ∈ ds, ShowOk d b n) (hl : ds.length ≤ L) : ShowOk (.lst ds) (L * (b + 1)) (n + 1) := by
  obtain ⟨a1, a2, a3, a4, a5⟩ := showAll h
  refine ⟨by simp only [D.plain, a1], by simp only [D.pyd, PyData.showable, a2], by simp only [D.pyd, PyData.leavesShort, a3], ?_, ?_⟩
  · simp only [D.pyd, PyData.bulk]
    exact Nat.le_trans a4 (Nat.mul_le_mul_right _ hl)
  · simp only [D.pyd, PyData.depth]
    omega
theorem showTup {b n L : Nat} {ds : List D} (h : ∀ d ∈ ds, ShowOk d b n) (hl : ds.length ≤ L) : ShowOk (.tup ds) (L * (b + 1)) (n + 1) := by
  obtain ⟨a1, a2, a3, a4, a5⟩ := showAll h
  refine ⟨by simp only [D.plain, a1], by simp only [D.pyd, PyData.showable, a2], by simp only [D.pyd, PyData.leavesShort, a3], ?_, ?_⟩
  · simp only [D.pyd, PyData.bulk]
    exact Nat.le_trans a4 (Nat.mul_le_mul_right _ hl)
  · simp only [D.pyd, PyData.depth]
    omega
theorem ShowOk.mono {d : D} {b n b' n' : Nat} (h : ShowOk d b n) (hb : b ≤ b') (hn : n ≤ n') : ShowOk d b' n' := ⟨h.pl, h.sh, h.ls, Nat.le_trans h.bk hb, Nat.le_trans h.dp hn⟩
theorem repr_ok {d : D} {b n : Nat} (h : ShowOk d b n) (hb : b ≤ 8000) (hn : n ≤ 60) : reprF [d] = some (.sh (.str d.pyd.shown)) := by
  have e : pyS d = some d.pyd := by
    have p := h.pl
    cases d <;> first | rfl | exact if_pos p | (simp only [D.plain] at p; cases p)
  have o : okShow d.pyd = true := by
    unfold okShow
    rw [h.sh, h.ls, decide_eq_true (show d.pyd.bulk ≤ 8000 from Nat.le_trans h.bk hb), decide_eq_true (show d.pyd.depth ≤ 60 from Nat.le_trans h.dp hn)]
    rfl
  unfold reprF
  dsimp only
  rw [e]
  dsimp only
  rw [if_pos o]
/-! ### ints in lists -/
theorem intsD_ints : ∀ ns : List Int, intsD (intsL ns) = some ns
  | [] => rfl
  | n :: ns => by
    show intsD (.int n :: intsL ns) = _
    unfold intsD
    rw [intsD_ints ns]
    rfl
theorem sum_ints (ns : List Int) : sumF [.lst (intsL ns)] = some (.sh (.int ns.sum)) := by
  unfold sumF
  dsimp only
  rw [intsD_ints]
  rfl
theorem picks_map {α β : Type} (f : α → β) (xs : List α) : ∀ is : List Nat, is.filterMap ((xs.map f)[·]?) = (is.filterMap (xs[·]?)).map f
  | [] => rfl
  | i :: is => by
    rw [List.filterMap_cons, List.filterMap_cons, List.getElem?_map, picks_map f xs is]
    cases xs[i]? <;> rfl
theorem pick_ints (ns : List Int) (lo hi st : Option Int) : pickL (intsL ns) lo hi st = intsL (pickL ns lo hi st) := by
  unfold pickL intsL
  rw [List.length_map]
  exact picks_map D.int ns _
theorem cut_ints (ns : List Int) (lo hi : Option Int) : cutL (intsL ns) lo hi = intsL (cutL ns lo hi) := by
  unfold cutL intsL
  rw [List.length_map, List.map_take, List.map_drop]
theorem A2.ints {P : D → D → Prop} (h : ∀ d e, P d e → ∃ i : Int, e = .int i) : ∀ {ds es : List D}, A2 P ds es → ∃ ns : List Int, es = intsL ns
  | _, _, .nil => ⟨[], rfl⟩
  | _, _, .cons p r => by
    obtain ⟨i, rfl⟩ := h _ _ p
    obtain ⟨ns, rfl⟩ := A2.ints h r
    exact ⟨i :: ns, rfl⟩
/-! ### while -/
def whS (n : Nat) (ot : FE.Env → OT) (ob : FE.Env → OS) : OS → OS
  | .nx e => whL n ot ob e
  | .cnt e => whL n ot ob e
  | .brk e => .nx e
  | .ret r e => .ret r e
  | .exc x e => .exc x e
  | .bad => .bad
def whK (n : Nat) (ot : FE.Env → OT) (ob : FE.Env → OS) (b : Bool) (e : FE.Env) : OS := match b with
  | true => whS n ot ob (ob e)
  | false => .nx e
theorem e_wh (n : Nat) (ot : FE.Env → OT) (ob : FE.Env → OS) (env : FE.Env) : whL (n + 1) ot ob env = (ot env).bindS (whK n ot ob) := by
  rw [whL]
  congr 1
  funext b e
  unfold whK whS
  cases b <;> rfl
theorem e_whK_f (n : Nat) (ot : FE.Env → OT) (ob : FE.Env → OS) (e : FE.Env) : whK n ot ob false e = .nx e := (rfl)
theorem e_whK_t (n : Nat) (ot : FE.Env → OT) (ob : FE.Env → OS) (e : FE.Env) : whK n ot ob true e = whS n ot ob (ob e) := (rfl)
theorem e_whS (n : Nat) (ot : FE.Env → OT) (ob : FE.Env → OS) (e : FE.Env) : whS n ot ob (.nx e) = whL n ot ob e := (rfl)
/-! ### divisors -/
def gf (d : Nat) : List Int → Nat
  | [] => d
  | n :: ns => gf (Nat.gcd d n.natAbs) ns
theorem gf_app : ∀ (xs ys : List Int) (d : Nat), gf d (xs ++ ys) = gf (gf d xs) ys
  | [], _, _ => rfl
  | x :: xs, ys, d => gf_app xs ys (Nat.gcd d x.natAbs)
theorem gf_dvd (k : Nat) : ∀ (ns : List Int) (d : Nat), k ∣ gf d ns ↔ k ∣ d ∧ ∀ y ∈ ns, k ∣ y.natAbs
  | [], d => ⟨fun h => ⟨h, fun y hy => by cases hy⟩, fun h => h.1⟩
  | n :: ns, d => by
    show k ∣ gf (Nat.gcd d n.natAbs) ns ↔ _
    rw [gf_dvd k ns, Nat.dvd_gcd_iff]
    constructor
    · rintro ⟨⟨h1, h2⟩, h3⟩
      exact ⟨h1, fun y hy => by
        rcases List.mem_cons.mp hy with rfl | hy
        · exact h2
        · exact h3 y hy⟩
    · rintro ⟨h1, h2⟩
      exact ⟨⟨h1, h2 n List.mem_cons_self⟩, fun y hy => h2 y (List.mem_cons_of_mem _ hy)⟩
theorem gf_mem {d : Nat} {ns : List Int} {y : Int} (h : y ∈ ns) : gf d ns ∣ y.natAbs := ((gf_dvd (gf d ns) ns d).mp (Nat.dvd_refl _)).2 y h
theorem gf_ext {ns ms : List Int} (h : ∀ k : Nat, (∀ y ∈ ns, k ∣ y.natAbs) ↔ ∀ y ∈ ms, k ∣ y.natAbs) : gf 0 ns = gf 0 ms := by
  apply Nat.dvd_antisymm
  · exact (gf_dvd _ ms 0).mpr ⟨Nat.dvd_zero _, (h _).mp fun y hy => gf_mem hy⟩
  · exact (gf_dvd _ ns 0).mpr ⟨Nat.dvd_zero _, (h _).mpr fun y hy => gf_mem hy⟩
theorem gf_scale (t : Int) : ∀ (ns : List Int) (d : Nat), gf (t.natAbs * d) (ns.map fun c => t * c) = t.natAbs * gf d ns
  | [], _ => rfl
  | n :: ns, d => by
    show gf (Nat.gcd (t.natAbs * d) (t * n).natAbs) _ = t.natAbs * gf (Nat.gcd d n.natAbs) ns
    rw [Int.natAbs_mul, Nat.gcd_mul_left]
    exact gf_scale t ns _
theorem gf_div {ns : List Int} (h : 0 < gf 0 ns) : gf 0 (ns.map fun c => c / (gf 0 ns : Int)) = 1 := by
  apply Nat.dvd_antisymm
  · generalize hk : gf 0 (ns.map fun c => c / (gf 0 ns : Int)) = k
    have hk2 : ∀ c ∈ ns, k ∣ (c / (gf 0 ns : Int)).natAbs := fun c hc => by
      rw [← hk]
      exact gf_mem (List.mem_map.mpr ⟨c, hc, rfl⟩)
    have h2 : gf 0 ns * k ∣ gf 0 ns := (gf_dvd _ ns 0).mpr ⟨Nat.dvd_zero _, fun c hc => by
      obtain ⟨q, hq⟩ : (gf 0 ns : Int) ∣ c := Int.natAbs_dvd_natAbs.mp (by rw [Int.natAbs_natCast]; exact gf_mem hc)
      have hne : (gf 0 ns : Int) ≠ 0 := by omega
      have e : c / (gf 0 ns : Int) = q := by
        conv => lhs; rw [hq]
        exact Int.mul_ediv_cancel_left q hne
      have h3 := hk2 c hc
      rw [e] at h3
      rw [hq, Int.natAbs_mul, Int.natAbs_natCast]
      exact Nat.mul_dvd_mul_left _ h3⟩
    have h3 : gf 0 ns * k ∣ gf 0 ns * 1 := by rw [Nat.mul_one]; exact h2
    exact Nat.dvd_of_mul_dvd_mul_left h h3
  · exact Nat.one_dvd _
theorem gf_le {ns : List Int} {B : Nat} (h : ∀ y ∈ ns, y.natAbs ≤ B) : gf 0 ns ≤ B := by
  by_cases z : gf 0 ns = 0
  · omega
  · have ex : ∃ y ∈ ns, y.natAbs ≠ 0 := by
      apply Classical.byContradiction
      intro q
      have q2 : ∀ y ∈ ns, y.natAbs = 0 := fun y hy => Classical.byContradiction fun e => q ⟨y, hy, e⟩
      have : (0 : Nat) ∣ gf 0 ns := (gf_dvd 0 ns 0).mpr ⟨Nat.dvd_refl _, fun y hy => by rw [q2 y hy]; exact Nat.dvd_refl _⟩
      exact z (Nat.eq_zero_of_zero_dvd this)
    obtain ⟨y, hy, hn⟩ := ex
    exact Nat.le_trans (Nat.le_of_dvd (by omega) (gf_mem hy)) (h y hy)
def okWS : Option SV → Bool
  | some .no => true
  | some (.sh _) => true
  | _ => false
theorem e_okW2 (env : FE.Env) (v : Nat) : okW env v = okWS env[v]? := by
  unfold okW okWS
  rfl
theorem e_okWS_no : okWS (some .no) = true := (rfl)
theorem e_okWS_sh (d : D) : okWS (some (.sh d)) = true := (rfl)
theorem lcL_pure {f : D → FE.Env → Option FE.Env} {ot : FE.Env → OT} {oe : FE.Env → OE} {ws : List Nat} (env : FE.Env) (g : Int → Int) : ∀ (ns : List Int) (acc : List D), acc.length + ns.length ≤ 1000000 →
    (∀ i ∈ ns, ∃ e1 e2 e3, f (.int i) env = some e1 ∧ ot e1 = .ok true e2 ∧ oe e2 = .ok (.sh (.int (g i))) e3 ∧ (ws.all fun v => noIo e3[v]?) = true ∧ wipeE e3 ws = env) → lcL f ot oe ws (intsL ns) env acc = some (acc ++ intsL (ns.map g), env)
  | [], acc, _, _ => by
    show lcL f ot oe ws [] env acc = _
    rw [lcL]
    show _ = some (acc ++ [], env)
    rw [List.append_nil]
  | n :: ns, acc, hl, h => by
    obtain ⟨e1, e2, e3, h1, h2, h3, h4, h5⟩ := h n List.mem_cons_self
    rw [List.length_cons] at hl
    have ih := lcL_pure env g ns (acc ++ [.int (g n)]) (by rw [List.length_append, List.length_singleton]; omega) fun i hi => h i (List.mem_cons_of_mem _ hi)
    show lcL f ot oe ws (.int n :: intsL ns) env acc = _
    rw [lcL, h1]
    dsimp only
    rw [h2]
    dsimp only
    rw [h3]
    dsimp only
    rw [if_pos ⟨h4, by omega⟩, h5]
    show lcL f ot oe ws (intsL ns) env (acc ++ [.int (g n)]) = _
    rw [ih, List.append_assoc]
    rfl
theorem abs_nat (i : Int) : (if i < 0 then -i else i) = (i.natAbs : Int) := by
  split <;> omega
theorem log_7 : (Int.natAbs 7).log2 < 9000 := by decide +kernel
theorem rev_ints (ns : List Int) : (intsL ns).reverse = intsL ns.reverse := by
  unfold intsL
  rw [List.map_reverse]
theorem len_ints (ns : List Int) : (intsL ns).length = ns.length := by
  unfold intsL
  rw [List.length_map]
theorem app_ints (ns ms : List Int) : intsL ns ++ intsL ms = intsL (ns ++ ms) := by
  unfold intsL
  rw [List.map_append]
theorem showInts {ns : List Int} (h : ∀ y ∈ ns, -(10 ^ 300) ≤ y ∧ y ≤ 10 ^ 300) : ∀ d ∈ intsL ns, ShowOk d 0 0 := fun d hd => by
  obtain ⟨y, hy, rfl⟩ := List.mem_map.mp hd
  exact showInt (h y hy).1 (h y hy).2
theorem A2.intsP {P : Int → Prop} {Q : D → D → Prop} (h : ∀ d e, Q d e → ∃ i : Int, e = .int i ∧ P i) : ∀ {ds es : List D}, A2 Q ds es → ∃ ns : List Int, es = intsL ns ∧ ∀ y ∈ ns, P y
  | _, _, .nil => ⟨[], rfl, fun y hy => by cases hy⟩
  | _, _, .cons p r => by
    obtain ⟨i, rfl, hi⟩ := h _ _ p
    obtain ⟨ns, rfl, hn⟩ := A2.intsP h r
    exact ⟨i :: ns, rfl, fun y hy => by
      rcases List.mem_cons.mp hy with rfl | hy
      · exact hi
      · exact hn y hy⟩
end FE

namespace FE
open PySem PySem.Spec PyProof.Rows L2
/-! ### small dicts as they are written -/
section
variable {X : Cx} {Z : Zd} {pos : Pos}
theorem n_dict0 : PE X (.Dict [] [] pos) (tE Z (oC (.dic [] []))) := PE.imp pe_dnewK fun σ H Q ⟨F, env, g, h⟩ p hp =>
  h (.ref p) _ _ (g.layF hp) (Ex.new (g.fresh hp)) (.dic (ks := []) (vs := []) upd_same rfl .nil)
theorem n_dict1 {k v : Expr} {x : PySem.Str} {u : V} {d : D} (hk : PE X k (tC (.str x))) (hv : PE X v (tC u)) (r : ∀ F, Rep Z.G F u d) : PE X (.Dict [some k] [v] pos) (tE Z (oC (.dic [.inr x] [d]))) :=
  PE.imp (pe_disp (pps_cons hk hv pps_nil) rfl rfl (by simp) (by simp)) fun σ H Q ⟨F, env, g, h⟩ p hp => by
    refine ⟨upd_same, [(.inr x, u)], rfl, by simp, ?_⟩
    have e : upd (upd H p (.dK [])) p (.dK (mergeK [] [(.inr x, u)])) = upd H p (.dK [(.inr x, u)]) := by
      funext a
      by_cases q : a = p
      · subst q
        rw [upd_same, upd_same]
        rfl
      · rw [upd_ne q, upd_ne q, upd_ne q]
    rw [e]
    exact h (.ref p) _ _ (g.layF hp) (Ex.new (g.fresh hp)) (.dic (ks := [.inr x]) (vs := [u]) upd_same rfl (.cons (r _) .nil))
end
/-! ### keyword-only defaults -/
theorem cal_kd {P : Program} {w : World} {K : PySem.W.Frag} {mg : PySem.Str → Option Value} {base h : Heap} {k : Nat} {x : PySem.Str} {params : Arguments} {body : List Stmt} {scope : Scope} {kws : List (PySem.Str × V)} {fd : FuncData} {ps : List PySem.Str} {sp : Sp} (n : Nat) (ks : List PySem.Str) (ms : List (PySem.Str × V)) (g : {α : Type} → List α → List α → List α → List α)
    (X : K.In h) (G : h.Ns mainGlobals mg) (gl : (He.Fa.glo x).ok K = true) (F : FunD K x x params body scope [] kws (He.ga K x) fd) (fn : FnG P w K mg base k (He.ga K x) fd ps sp) (hk : kws ≠ []) (hms : ∀ q ∈ ms, q ∈ kws)
    (hrel : ∀ {vs mz zs : List V} {us mv ws : List Value}, Vals vs us → Vals mz mv → Vals zs ws → Vals (g vs mz zs) (g us mv ws))
    (b : ∀ (D : Addr) (doc pm : Value) (an : Option Addr) (cdv ct : Value) (us mv ws : List Value), us.length = n → mv.length = ms.length → ws.length = ks.length →
      KwChain D ((ms.map (·.1)).zip mv) (bindArgs (PySem.W.fnOf x x params body scope .none (.ref D) doc pm an cdv ct) ⟨us, ks.zip ws⟩) (ps.zip (g us mv ws))) : Cal P w K mg base k x n ks (fun vs zs => g vs (ms.map (·.2)) zs) sp := by
  obtain ⟨mv, hb⟩ := F.kbinds0 n ks ms g hk hms hrel b
  exact ⟨_, fd, ps, _, He.glo_ok X G gl, F.kp, fn, hb⟩
theorem grel_d (n : Nat) (mv : List V) (md : List D) (hm : ∀ G F, RepL G F mv md) : GRel (n + mv.length) n 0 (fun vs _ => vs ++ mv) (fun ds _ => ds ++ md) := fun G F vs zs ds es h1 h2 r1 r2 => ⟨by rw [List.length_append, h1], r1.append (hm G F)⟩
theorem grel_kd (n m : Nat) (mv : List V) (md : List D) (hm : ∀ G F, RepL G F mv md) : GRel (n + (m + mv.length)) n m (fun vs zs => vs ++ (zs ++ mv)) (fun ds es => ds ++ (es ++ md)) := fun G F vs zs ds es h1 h2 r1 r2 => ⟨by rw [List.length_append, List.length_append, h1, h2], r1.append (r2.append (hm G F))⟩
theorem grel_dk (n m : Nat) (mv : List V) (md : List D) (hm : ∀ G F, RepL G F mv md) : GRel (n + (mv.length + m)) n m (fun vs zs => vs ++ (mv ++ zs)) (fun ds es => ds ++ (md ++ es)) := fun G F vs zs ds es h1 h2 r1 r2 => ⟨by rw [List.length_append, List.length_append, h1, h2], r1.append ((hm G F).append r2)⟩
theorem grel_kr (n m : Nat) : GRel (n + m) n m (fun vs zs => vs ++ zs.reverse) (fun ds es => ds ++ es.reverse) := fun G F vs zs ds es h1 h2 r1 r2 => ⟨by rw [List.length_append, List.length_reverse, h1, h2], r1.append r2.reverse⟩
theorem vals_rev : ∀ {vs : List V} {us : List Value}, Vals vs us → Vals vs.reverse us.reverse
  | _, _, .nil => .nil
  | _, _, .cons h r => by
    rw [List.reverse_cons, List.reverse_cons]
    exact (vals_rev r).append (.cons h .nil)
end FE

namespace FE
open PySem PySem.Spec PyProof.Rows L2 TL
/-! ### texts of signs -/
def chS (c : Nat) : PySem.Str := ⟨#[c]⟩
def chL (cs : List Nat) : List D := cs.map fun c => .str ⟨#[c]⟩
theorem strsD_ch : ∀ cs : List Nat, strsD (chL cs) = some (cs.map chS)
  | [] => rfl
  | c :: cs => by
    show strsD (.str ⟨#[c]⟩ :: chL cs) = _
    unfold strsD
    rw [strsD_ch cs]
    rfl
theorem joinL_nil : ∀ ps : List (List Nat), joinL [] ps = ps.flatten
  | [] => rfl
  | [p] => by
    show p = p ++ []
    rw [List.append_nil]
  | p :: q :: r => by
    show p ++ ([] ++ joinL [] (q :: r)) = p ++ (q :: r).flatten
    rw [List.nil_append, joinL_nil (q :: r)]
theorem flat_one : ∀ cs : List Nat, (cs.map fun c => [c]).flatten = cs
  | [] => rfl
  | c :: cs => by
    show c :: (cs.map fun c => [c]).flatten = c :: cs
    rw [flat_one cs]
theorem join_ch (cs : List Nat) : (Txt.join (PySem.Str.ofString "") (cs.map chS)).cps.toList = cs := by
  rw [join_eq]
  have e := tl_join (PySem.Str.ofString "") (cs.map chS)
  have e2 : (cs.map chS).map tl = cs.map fun c => [c] := by
    rw [List.map_map]
    rfl
  rw [e2, show tl (PySem.Str.ofString "") = [] from rfl, joinL_nil, flat_one] at e
  exact e
theorem len_ch (x : PySem.Str) (cs : List Nat) (h : x.cps.toList = cs) : x.length = cs.length := by
  rw [← h]
  show x.cps.size = _
  simp
theorem joinF_ch (cs : List Nat) (h : cs.length ≤ 1000) : joinF (PySem.Str.ofString "") (.lst (chL cs)) = some (.sh (.str (Txt.join (PySem.Str.ofString "") (cs.map chS)))) := by
  unfold joinF
  show (match strsD (chL cs) with
    | some ys => _
    | none => _) = _
  rw [strsD_ch]
  dsimp only
  rw [if_pos]
  have e : ((cs.map chS).map fun x => x.length).sum = cs.length := by
    clear h
    induction cs with
    | nil => rfl
    | cons c cs ih =>
      rw [List.map_cons, List.map_cons, List.sum_cons, ih, List.length_cons]
      show 1 + cs.length = _
      omega
  rw [e, show (PySem.Str.ofString "").length = 0 from rfl]
  omega
/-- lists of texts that can be compared -/
theorem okD_ch {cs : List Nat} (h : ∀ c ∈ cs, c < 128) : okD (.lst (chL cs)) = true := by
  have all : plainL (chL cs) = true ∧ PyData.canLayAll0 (pydL (chL cs)) = true ∧ PyData.depthAll (pydL (chL cs)) = 0 := by
    induction cs with
    | nil => exact ⟨by simp only [chL, List.map_nil, plainL], by simp only [chL, List.map_nil, pydL, PyData.canLayAll0], by simp only [chL, List.map_nil, pydL, PyData.depthAll]⟩
    | cons c cs ih =>
      obtain ⟨h1, h2, h3⟩ := ih fun d hd => h d (List.mem_cons_of_mem _ hd)
      have hc := h c List.mem_cons_self
      have ho : PyData.strOk ⟨#[c]⟩ = true := by
        unfold PyData.strOk
        simp
        omega
      refine ⟨?_, ?_, ?_⟩
      · show plainL (.str ⟨#[c]⟩ :: chL cs) = true
        simp only [plainL, D.plain, h1, Bool.and_self]
      · show PyData.canLayAll0 (pydL (.str ⟨#[c]⟩ :: chL cs)) = true
        simp only [pydL, D.pyd, PyData.canLayAll0, PyData.canLay0, ho, h2, Bool.and_self]
      · show PyData.depthAll (pydL (.str ⟨#[c]⟩ :: chL cs)) = 0
        simp only [pydL, D.pyd, PyData.depthAll, PyData.depth, h3]
        rfl
  obtain ⟨h1, h2, h3⟩ := all
  unfold okD SeqAt.shaped
  simp only [D.plain, D.pyd, PyData.canLay0, PyData.depth, h1, h2, h3]
  decide
theorem eq_ch {cs : List Nat} (h : ∀ c ∈ cs, c < 128) : eqF (.lst (chL cs)) (.lst []) = some (.sh (.bl cs.isEmpty)) := by
  have o1 := okD_ch h
  have o2 : okD (.lst []) = true := okD_ch (cs := []) fun c hc => by cases hc
  unfold eqF bR
  have e : eqD (.lst (chL cs)) (.lst []) = some (PyData.eqv (D.lst (chL cs)).pyd (D.lst []).pyd) := by
    show (if okD (.lst (chL cs)) && okD (.lst []) then some (PyData.eqv (D.lst (chL cs)).pyd (D.lst []).pyd) else none) = _
    rw [o1, o2]
    rfl
  rw [e]
  cases cs with
  | nil =>
    simp only [chL, List.map_nil, D.pyd, pydL, PyData.eqv, PyData.eqvAll]
    rfl
  | cons c cs =>
    show some (R.sh (.bl (PyData.eqv (D.lst (.str ⟨#[c]⟩ :: chL cs)).pyd (D.lst []).pyd))) = _
    simp only [D.pyd, pydL, PyData.eqv, PyData.eqvAll]
    rfl
theorem ne_ch {cs : List Nat} (h : ∀ c ∈ cs, c < 128) : neF (.lst (chL cs)) (.lst []) = some (.sh (.bl (!cs.isEmpty))) := by
  have e := eq_ch h
  unfold eqF bR at e
  unfold neF bR
  cases q : eqD (.lst (chL cs)) (.lst []) with
  | none => rw [q] at e; cases e
  | some b =>
    rw [q] at e
    have : b = cs.isEmpty := by
      cases e
      rfl
    rw [this]
    rfl
theorem showStr {x : PySem.Str} (h : ∀ c ∈ x.cps.toList, c < 128) (hl : x.length ≤ 1000) : ShowOk (.str x) 1000 0 where
  pl := by simp only [D.plain]
  sh := by simp only [D.pyd, PyData.showable]
  ls := by
    simp only [D.pyd, PyData.leavesShort]
    refine List.all_eq_true.mpr fun c hc => decide_eq_true ?_
    have := h c hc
    omega
  bk := by simp only [D.pyd, PyData.bulk]; exact hl
  dp := by simp only [D.pyd, PyData.depth]; exact Nat.le_refl _
/-- an item of a list, a sign of a text -/
theorem at_mem {α : Type} {xs : List α} {v : Int} (h0 : 0 ≤ v) (h1 : v < xs.length) : ∃ x ∈ xs, L2.atI xs v = some x := by
  have hk : v.toNat < xs.length := by omega
  refine ⟨xs[v.toNat], List.getElem_mem _, ?_⟩
  unfold L2.atI L2.ixN
  rw [if_pos h0, if_pos (by omega)]
  exact List.getElem?_eq_getElem hk
theorem ix_s (x : PySem.Str) (v : Int) (c : Nat) (h : x.length ≤ 1000000) (e : L2.atI x.cps.toList v = some c) : ixF (.str x) (.int v) = some (.sh (.str ⟨#[c]⟩)) := by
  unfold ixF
  dsimp only
  rw [if_pos h, e]
  rfl
theorem e_len_s (x : PySem.Str) : lenF [.str x] = if x.length ≤ 1000000 then some (.sh (.int x.length)) else none := by
  unfold lenF
  rfl
def jK2 (a : PySem.Str) (r2 : R) (e : FE.Env) : OE := okO (joinF a r2.fz) e
def jK1 (ob : FE.Env → OE) (r : R) (e : FE.Env) : OE := match r.fz with
  | .str a => (ob e).bind (jK2 a)
  | _ => .bad
theorem e_join (oa ob : FE.Env → OE) (env : FE.Env) : oJoin oa ob env = (oa env).bind (jK1 ob) := by
  unfold oJoin
  all_goals congr 1
theorem e_jK1 (ob : FE.Env → OE) (a : PySem.Str) (e : FE.Env) : jK1 ob (.sh (.str a)) e = (ob e).bind (jK2 a) := (rfl)
theorem e_jK2 (a : PySem.Str) (r2 : R) (e : FE.Env) : jK2 a r2 e = okO (joinF a r2.fz) e := (rfl)
theorem set_ch (cs : List Nat) (j c : Nat) : (chL cs).set j (.str ⟨#[c]⟩) = chL (cs.set j c) := by
  unfold chL
  rw [List.map_set]
theorem len_chL (cs : List Nat) : (chL cs).length = cs.length := by
  unfold chL
  rw [List.length_map]
theorem ixn_of {n : Nat} {v : Int} (h0 : 0 ≤ v) (h1 : v < n) : L2.ixN n v = some v.toNat := by
  unfold L2.ixN
  rw [if_pos h0, if_pos h1]
theorem app_cps (x y : PySem.Str) : (x ++ y).cps.toList = x.cps.toList ++ y.cps.toList := by
  show (x.cps ++ y.cps).toList = _
  simp
theorem bolsD_map {α : Type} (f : α → Bool) : ∀ cs : List α, bolsD (cs.map fun c => D.bl (f c)) = some (cs.map f)
  | [] => rfl
  | c :: cs => by
    show bolsD (.bl (f c) :: cs.map fun c => D.bl (f c)) = _
    unfold bolsD
    rw [bolsD_map f cs]
    rfl
/-! ### a list of one's own, compared -/
def SDp (K : PySem.W.Frag) (r : R2) (f : D → D → Option R) : Prop := ∀ (G : Gd) (H : Hp) (x y : V) (ds : List D) (e : D) (z : R) (Q : VK), G.K = K → Rep G H x (.lst ds) → Rep G H y e → f (.lst ds) e = some z → (∀ b, z = .sh (.bl b) → Q (.bl b) H) → r x y H Q
theorem eqD_l {ds : List D} {e : D} {b : Bool} (h : eqD (.lst ds) e = some b) : okD (.lst ds) = true ∧ okD e = true ∧ b = PyData.eqv (D.lst ds).pyd e.pyd := by
  have h : (if okD (.lst ds) && okD e then some (PyData.eqv (D.lst ds).pyd e.pyd) else none) = some b := h
  split at h
  · rename_i c
    cases h
    rw [Bool.and_eq_true] at c
    exact ⟨c.1, c.2, rfl⟩
  · cases h
theorem sd_eq {K : PySem.W.Frag} : SDp K (rEqU K) eqF := by
  intro G H x y ds e z Q hK rx ry h q
  subst hK
  unfold eqF bR at h
  cases qe : eqD (.lst ds) e with
  | none => rw [qe] at h; cases h
  | some b =>
    rw [qe] at h
    cases h
    obtain ⟨o1, o2, rfl⟩ := eqD_l qe
    obtain ⟨p1, s1⟩ := okD_dp rx o1
    obtain ⟨p2, s2⟩ := okD_dp ry o2
    exact .inr ⟨_, _, p1, p2, s1, s2, q _ rfl⟩
theorem sd_ne {K : PySem.W.Frag} : SDp K (rNeU K) neF := by
  intro G H x y ds e z Q hK rx ry h q
  subst hK
  unfold neF bR at h
  cases qe : eqD (.lst ds) e with
  | none => rw [qe] at h; cases h
  | some b =>
    rw [qe] at h
    cases h
    obtain ⟨o1, o2, rfl⟩ := eqD_l qe
    obtain ⟨p1, s1⟩ := okD_dp rx o1
    obtain ⟨p2, s2⟩ := okD_dp ry o2
    exact .inr ⟨_, _, p1, p2, s1, s2, q _ rfl⟩
def cvB (f : D → D → Option R) (i : Nat) (r : R) (e : FE.Env) : OE := match ownAt e i with
  | some ds => (match f (.lst ds) r.fz with
    | some (.sh (.bl b)) => .ok (.sh (.bl b)) e
    | _ => .bad)
  | none => .bad
def oCmpV (f : D → D → Option R) (i : Nat) (ob : FE.Env → OE) : FE.Env → OE := fun env => if here env[i]? = true then (ob env).bind (cvB f i) else .bad
theorem cmpV_to {X : Cx} {Z : Zd} {r : R2} {f : D → D → Option R} {i : Nat} {ob : FE.Env → OE} {σ : L2.St} {H : Hp} {Q : VK} (hs : SDp X.K r f) (hK : Z.G.K = X.K) (h : tE Z (oCmpV f i ob) σ H Q) : ∃ v, σ[i]? = some (some v) ∧ tE Z ob σ H fun y H2 => r v y H2 Q := by
  obtain ⟨F, env, g, h⟩ := h
  unfold oCmpV at h
  split at h
  case isFalse => exact h.elim
  rename_i hh
  obtain ⟨v, hv⟩ := g.here hh
  refine ⟨v, hv, ?_⟩
  refine seqE g h fun r1 env1 w H1 F1 g1 x1 rw1 h1 => ?_
  unfold cvB at h1
  cases ho : ownAt env1 i with
  | none => rw [ho] at h1; exact h1.elim
  | some ds =>
    rw [ho] at h1
    obtain ⟨a, vs, e1, e2, e3⟩ := own_at g1 ho
    rw [hv] at e1
    cases e1
    dsimp only at h1
    cases hz : f (.lst ds) r1.fz with
    | none => rw [hz] at h1; exact h1.elim
    | some z =>
      rw [hz] at h1
      refine hs Z.G H1 (.ref a) w ds r1.fz z Q hK (.lst e2 (e3.mono g1.fh)) (rw1.mono g1.fh) hz fun b hb => ?_
      subst hb
      exact h1 (.bl b) H1 F1 g1 (Ex.refl F1) (.bl b)
section
variable {X : Cx} {Z : Zd} {b : Expr} {ob : FE.Env → OE} {pos p : Pos} {x : PySem.Str}
theorem n_cmpV (i : Nat) {op : CmpOp} {r : R2} {f : D → D → Option R} (ho : OpR X (compareOp op) r) (hs : SDp X.K r f) (hb : PE X b (tE Z ob)) (hK : Z.G.K = X.K) (hN : X.N[i]? = some x := by rfl) (hv : Vis X.env.scope x := by first | exact Or.inl rfl | exact Or.inr (Or.inl rfl) | exact Or.inr (Or.inr rfl)) (hd : (x == ("__debug__" : PySem.Str)) = false := by decide)
    (hcd : (x == ("__classdict__" : PySem.Str)) = false := by decide) (hm : behindInMarks op b = false := by rfl) : PE X (.Compare (.Name x p) [op] [b] pos) (tE Z (oCmpV f i ob)) :=
  PE.imp (pe_cmpR ho (pe_var hN hv hd hcd) hb hm) fun σ H Q h => cmpV_to hs hK h
theorem n_tcmpV (i : Nat) {op : CmpOp} {r : R2} {f : D → D → Option R} (ho : OpR X (compareOp op) r) (hs : SDp X.K r f) (hb : PE X b (tE Z ob)) (hK : Z.G.K = X.K) (hN : X.N[i]? = some x := by rfl) (hv : Vis X.env.scope x := by first | exact Or.inl rfl | exact Or.inr (Or.inl rfl) | exact Or.inr (Or.inr rfl)) (hd : (x == ("__debug__" : PySem.Str)) = false := by decide)
    (hcd : (x == ("__classdict__" : PySem.Str)) = false := by decide) (hm : behindInMarks op b = false := by rfl) : PT X (.Compare (.Name x p) [op] [b] pos) (tT Z (oTru (oCmpV f i ob))) := by
  refine PT.imp (pt_cmpR ho (pe_var hN hv hd hcd) hb hm) fun σ H Q h => ?_
  obtain ⟨F, env, g, h⟩ := test_to h
  exact cmpV_to hs hK ⟨F, env, g, h⟩
end
def cvZ (e : FE.Env) : Option R → OE
  | some (.sh (.bl b)) => .ok (.sh (.bl b)) e
  | _ => .bad
def cvO (f : D → D → Option R) (r : R) (e : FE.Env) : Option (List D) → OE
  | some ds => cvZ e (f (.lst ds) r.fz)
  | none => .bad
def cvH (f : D → D → Option R) (i : Nat) (ob : FE.Env → OE) (env : FE.Env) : Bool → OE
  | true => (ob env).bind (cvB f i)
  | false => .bad
theorem e_cmpV (f : D → D → Option R) (i : Nat) (ob : FE.Env → OE) (env : FE.Env) : oCmpV f i ob env = cvH f i ob env (here env[i]?) := by
  unfold oCmpV cvH
  cases here env[i]? <;> rfl
theorem e_cvH (f : D → D → Option R) (i : Nat) (ob : FE.Env → OE) (env : FE.Env) : cvH f i ob env true = (ob env).bind (cvB f i) := (rfl)
theorem e_cvB (f : D → D → Option R) (i : Nat) (r : R) (e : FE.Env) : cvB f i r e = cvO f r e (ownAt e i) := by
  unfold cvB cvO
  cases ownAt e i with
  | none => rfl
  | some ds =>
    dsimp only
    generalize f (.lst ds) r.fz = z
    unfold cvZ
    rfl
theorem e_cvO (f : D → D → Option R) (r : R) (e : FE.Env) (ds : List D) : cvO f r e (some ds) = cvZ e (f (.lst ds) r.fz) := (rfl)
theorem e_cvZ (b : Bool) (e : FE.Env) : cvZ e (some (.sh (.bl b))) = .ok (.sh (.bl b)) e := (rfl)
end FE

namespace FE
open PySem PySem.Spec PyProof.Rows L2
/-! ### zip of any two of lists and tuples -/
/-- a source: a tuple (true) or a list, its iterator -/
def SrcA (b : Bool) (h : Heap) (l : Addr) (xs : Array Value) : Prop := match b with
  | true => h.IsTuple l xs
  | false => h.IsList l xs
def ItA (b : Bool) (h : Heap) (i l : Addr) (k : Nat) : Prop := match b with
  | true => h.IsTupleIter i l k
  | false => h.IsListIter i l k
section
variable {prog : Program} {w : World} {A : Around} {E : Value → Shared → Prop} {s : Shared} {b c : Bool}
theorem ItA.obj {h : Heap} {i l : Addr} {k : Nat} (x : ItA b h i l k) : ∃ o, h.get? i = some o ∧ ∃ vs, o.data = .fields vs := by
  cases b with
  | true =>
    obtain ⟨o, e, _, d⟩ := x
    exact ⟨o, e, _, d⟩
  | false =>
    obtain ⟨o, e, _, d⟩ := x
    exact ⟨o, e, _, d⟩
theorem ItA.but {h h' : Heap} {i l z : Addr} {k : Nat} (x : ItA b h i l k) (e : Heap.ExtBut z h h') (n : i ≠ z) : ItA b h' i l k := by
  cases b with
  | true => exact Heap.IsTupleIter.extBut x e n
  | false => exact Heap.IsListIter.extBut x e n
theorem ItA.there {h h' : Heap} {i l : Addr} {k : Nat} (x : ItA b h i l k) (e : ∀ o, h.get? i = some o → h'.get? i = some o) : ItA b h' i l k := by
  cases b with
  | true => exact Heap.IsTupleIter.at x e
  | false => exact Heap.IsListIter.at x e
theorem SrcA.but {h h' : Heap} {l z : Addr} {xs : Array Value} (x : SrcA b h l xs) (e : Heap.ExtBut z h h') (n : l ≠ z) : SrcA b h' l xs := by
  cases b with
  | true => exact Heap.IsTuple.extBut x e n
  | false => exact Heap.IsList.extBut x e n
theorem nx_item {i l : Addr} {k : Nat} {xs : Array Value} {x : Value} {Q : Value → Shared → Prop} (hi : ItA b s.heap i l k) (hl : SrcA b s.heap l xs) (hx : xs[k]? = some x)
    (hQ : ∀ h', ItA b h' i l (k + 1) → Heap.SameBut i s.heap h' → Q x { s with heap := h' }) : wpAny (model prog w) A (Builtin.SmallTypes.nextOf (.ref i)) Q E s := by
  cases b with
  | true => exact RZ.nextOf_tuple_item hi hl hx hQ
  | false => exact wpAny_nextOf_list_item hi hl hx hQ
theorem nx_end {i l : Addr} {k : Nat} {xs : Array Value} {Q : Value → Shared → Prop} (hh : A.handled = none) (hi : ItA b s.heap i l k) (hl : SrcA b s.heap l xs) (hx : xs[k]? = none)
    (hE : ∀ h' e, Heap.ExtBut i s.heap h' → (∃ o, h'.get? e = some o ∧ o.cls = .type "StopIteration") → E (.ref e) { s with heap := h' }) : wpAny (model prog w) A (Builtin.SmallTypes.nextOf (.ref i)) Q E s := by
  cases b with
  | true => exact RZ.nextOf_tuple_end hh hi hl hx hE
  | false => exact wpAny_nextOf_list_end hh hi hl hx hE
/-- the next pair -/
theorem zx_item {q u v i1 i2 l1 l2 : Addr} {k1 k2 : Nat} {xs ys : Array Value} {x y p0 p1 : Value} {Q : Value → Shared → Prop} (D : ZipApart q u v i1 i2 l1 l2) (hq : IsZip s.heap q u v .none) (hu : IsPair s.heap u (.ref i1) (.ref i2)) (hv : IsPair s.heap v p0 p1)
    (g1 : ItA b s.heap i1 l1 k1) (g2 : ItA c s.heap i2 l2 k2) (s1 : SrcA b s.heap l1 xs) (s2 : SrcA c s.heap l2 ys) (hx : xs[k1]? = some x) (hy : ys[k2]? = some y)
    (hQ : ∀ h', IsZip h' q u v (rawInt s.heap.objs.size) → IsPair h' v x y → ItA b h' i1 l1 (k1 + 1) → ItA c h' i2 l2 (k2 + 1) → IsPair h' s.heap.objs.size x y → h'.objs.size = s.heap.objs.size + 1 →
      (∀ a o, a ≠ q → a ≠ v → a ≠ i1 → a ≠ i2 → s.heap.get? a = some o → h'.get? a = some o) → Q (.ref s.heap.objs.size) { s with heap := h' }) :
    wpAny (model prog w) A (Builtin.«zip.__next__» ⟨[.ref q], []⟩) (fun fin s' => ∃ r, fin = .done (.ret r) ∧ Q r s') E s := by
  show wpAny _ _ (field (.ref q) 2 >>= _) _ _ _
  refine wpAny_bind (wpAny_field hq rfl (x := .bool false) rfl ?_)
  show wpAny _ _ (field (.ref q) 3 >>= _) _ _ _
  refine wpAny_bind (wpAny_field hq rfl (x := .ref u) rfl (wpAny_bind (wpAny_seqItems hu rfl ?_)))
  show wpAny _ _ (Builtin.SmallTypes.ownedTupleIsFree (.ref q) >>= _) _ _ _
  refine wpAny_bind ?_; unfold Builtin.SmallTypes.ownedTupleIsFree
  refine wpAny_bind (wpAny_field hq rfl (x := .none) rfl (wpAny_pure ?_)); simp only [if_true]
  refine wpAny_bind (wpAny_rule (wpAny_bind (wpAny_field hq rfl (x := .ref v) rfl ?_)))
  refine wpAny_bind (wpAny_setField_rec hq (by simp) fun m1 hq1 t1 => wpAny_bind ?_)
  replace hq1 : IsZip m1 q u v .ellipsis := hq1
  simp only [List.forIn_nil, List.forIn_cons, List.zipIdx_nil, List.zipIdx_cons]
  refine wpAny_bind (wpAny_bind (wpAny_onRaise (?_ : wpAny _ _ _ _ _ _)))
  show wpAny _ _ (Builtin.SmallTypes.nextOf (.ref i1) >>= fun _ => _) _ _ _
  refine wpAny_bind (nx_item (g1.but t1.extBut D.i1z) (s1.but t1.extBut D.l1z) hx fun m2 g12 t2 => wpAny_pure ?_)
  have hv2 : IsPair m2 v p0 p1 := t2.extBut _ _ D.TOi1 (t1.extBut _ _ D.TOz hv)
  refine wpAny_bind (wpAny_seqItems hv2 rfl (wpAny_bind (wpAny_updateSeq_pair hv2 fun m3 hv3 t3 => ?_)))
  replace hv3 : IsPair m3 v x p1 := hv3
  refine wpAny_bind (wpAny_letGo (wpAny_pure ?_)); refine wpAny_bind (wpAny_bind (wpAny_onRaise (?_ : wpAny _ _ _ _ _ _)))
  show wpAny _ _ (Builtin.SmallTypes.nextOf (.ref i2) >>= fun _ => _) _ _ _
  refine wpAny_bind (nx_item (((g2.but t1.extBut D.i2z).but t2.extBut D.i12.symm).but t3.extBut D.TOi2.symm) (((s2.but t1.extBut D.l2z).but t2.extBut D.l2i1).but t3.extBut D.l2TO) hy fun m4 g24 t4 => wpAny_pure ?_)
  have hv4 : IsPair m4 v x p1 := t4.extBut _ _ D.TOi2 hv3
  refine wpAny_bind (wpAny_seqItems hv4 rfl (wpAny_bind (wpAny_updateSeq_pair hv4 fun m5 hv5 t5 => ?_)))
  replace hv5 : IsPair m5 v x y := hv5
  refine wpAny_bind (wpAny_letGo (wpAny_pure (wpAny_pure (wpAny_bind (wpAny_seqItems hv5 rfl (wpAny_bind (wpAny_newTuple ?_)))))))
  have size : m5.objs.size = s.heap.objs.size := by rw [t5.1, t4.1, t3.1, t2.1, t1.1]
  have hq5 : IsZip m5 q u v .ellipsis := t5.extBut _ _ D.TOz.symm (t4.extBut _ _ D.i2z.symm (t3.extBut _ _ D.TOz.symm (t2.extBut _ _ D.i1z.symm hq1)))
  have kept : ∀ a o, a ≠ q → a ≠ v → a ≠ i1 → a ≠ i2 → s.heap.get? a = some o → m5.get? a = some o := fun a o n1 n2 n3 n4 e =>
    t5.extBut _ _ n2 (t4.extBut _ _ n4 (t3.extBut _ _ n2 (t2.extBut _ _ n3 (t1.extBut _ _ n1 e))))
  have g15 : ItA b m5 i1 l1 (k1 + 1) := ((g12.but t3.extBut D.TOi1.symm).but t4.extBut D.i12).but t5.extBut D.TOi1.symm
  have g25 : ItA c m5 i2 l2 (k2 + 1) := g24.but t5.extBut D.TOi2.symm
  have lq : q < m5.objs.size := Heap.lt_size hq5
  show wpAny _ _ (Builtin.SmallTypes.ownedTupleHandOut (.ref q) (.ref m5.objs.size) >>= _) _ _ _
  refine wpAny_bind ?_; unfold Builtin.SmallTypes.ownedTupleHandOut
  have hq6 : IsZip (m5.push { cls := .type "tuple", data := .seq #[x, y] }) q u v .ellipsis := Heap.get?_push_of_some _ hq5
  refine wpAny_bind (wpAny_setField_rec hq6 (by simp) fun m7 hq7 t7 => ?_)
  replace hq7 : IsZip m7 q u v (rawInt m5.objs.size) := hq7
  refine wpAny_setField_rec hq7 (by simp) fun m8 hq8 t8 => wpAny_pure ⟨_, rfl, ?_⟩
  replace hq8 : IsZip m8 q u v (rawInt m5.objs.size) := hq8
  have up : ∀ a o, a ≠ q → m5.get? a = some o → m8.get? a = some o := fun a o n e => t8.extBut _ _ n (t7.extBut _ _ n (Heap.get?_push_of_some _ e))
  have hT : IsPair m8 m5.objs.size x y := t8.extBut _ _ (Nat.ne_of_gt lq) (t7.extBut _ _ (Nat.ne_of_gt lq) (Heap.get?_push_size _ rfl))
  have size8 : m8.objs.size = m5.objs.size + 1 := by rw [t8.1, t7.1, Heap.size_push]
  rw [size] at hq8 hT size8
  show Q (.ref m5.objs.size) _
  rw [size]
  exact hQ m8 hq8 (up _ _ D.TOz hv5) (g15.there fun o e => up _ o D.i1z e) (g25.there fun o e => up _ o D.i2z e) hT size8 fun a o n1 n2 n3 n4 e => up a o n1 (kept a o n1 n2 n3 n4 e)
/-- no pair any more -/
theorem zx_end {q u v i1 i2 l1 l2 : Addr} {k1 k2 : Nat} {xs ys : Array Value} {p0 p1 : Value} {Q : Fin → Shared → Prop} (hh : A.handled = none) (D : ZipApart q u v i1 i2 l1 l2) (hq : IsZip s.heap q u v .none) (hu : IsPair s.heap u (.ref i1) (.ref i2)) (hv : IsPair s.heap v p0 p1)
    (g1 : ItA b s.heap i1 l1 k1) (g2 : ItA c s.heap i2 l2 k2) (s1 : SrcA b s.heap l1 xs) (s2 : SrcA c s.heap l2 ys) (hend : xs[k1]? = none ∨ ys[k2]? = none)
    (hE : ∀ h' e, (∀ a o, a ≠ q → a ≠ v → a ≠ i1 → a ≠ i2 → s.heap.get? a = some o → h'.get? a = some o) → (∃ o, h'.get? e = some o ∧ o.cls = .type "StopIteration") → E (.ref e) { s with heap := h' }) :
    wpAny (model prog w) A (Builtin.«zip.__next__» ⟨[.ref q], []⟩) Q E s := by
  show wpAny _ _ (field (.ref q) 2 >>= _) _ _ _
  refine wpAny_bind (wpAny_field hq rfl (x := .bool false) rfl ?_)
  show wpAny _ _ (field (.ref q) 3 >>= _) _ _ _
  refine wpAny_bind (wpAny_field hq rfl (x := .ref u) rfl (wpAny_bind (wpAny_seqItems hu rfl ?_)))
  show wpAny _ _ (Builtin.SmallTypes.ownedTupleIsFree (.ref q) >>= _) _ _ _
  refine wpAny_bind ?_; unfold Builtin.SmallTypes.ownedTupleIsFree
  refine wpAny_bind (wpAny_field hq rfl (x := .none) rfl (wpAny_pure ?_)); simp only [if_true]
  refine wpAny_bind (wpAny_rule (wpAny_bind (wpAny_field hq rfl (x := .ref v) rfl ?_)))
  refine wpAny_bind (wpAny_setField_rec hq (by simp) fun m1 hq1 t1 => wpAny_bind ?_)
  replace hq1 : IsZip m1 q u v .ellipsis := hq1
  simp only [List.forIn_nil, List.forIn_cons, List.zipIdx_nil, List.zipIdx_cons]
  refine wpAny_bind (wpAny_bind (wpAny_onRaise (?_ : wpAny _ _ _ _ _ _)))
  show wpAny _ _ (Builtin.SmallTypes.nextOf (.ref i1) >>= fun _ => _) _ _ _
  by_cases hx : xs[k1]? = none
  · refine wpAny_bind (nx_end hh (g1.but t1.extBut D.i1z) (s1.but t1.extBut D.l1z) hx fun m2 e t2 he => ?_)
    obtain ⟨oe, he1, he2⟩ := he
    have hq2 : IsZip m2 q u v .ellipsis := t2 _ _ D.i1z.symm hq1
    have neq : e ≠ q := fun z => by
      subst z
      rw [hq2] at he1
      cases he1
      simp at he2
    exact wpAny_setField_rec hq2 (by simp) fun m3 _ t3 => hE m3 e (fun a o n1 _ n3 _ z => t3.extBut _ _ n1 (t2 _ _ n3 (t1.extBut _ _ n1 z))) ⟨oe, t3.extBut _ _ neq he1, he2⟩
  · obtain ⟨x, hx2⟩ : ∃ x, xs[k1]? = some x := Option.ne_none_iff_exists'.mp hx
    have hy : ys[k2]? = none := hend.resolve_left hx
    refine wpAny_bind (nx_item (g1.but t1.extBut D.i1z) (s1.but t1.extBut D.l1z) hx2 fun m2 g12 t2 => wpAny_pure ?_)
    have hv2 : IsPair m2 v p0 p1 := t2.extBut _ _ D.TOi1 (t1.extBut _ _ D.TOz hv)
    refine wpAny_bind (wpAny_seqItems hv2 rfl (wpAny_bind (wpAny_updateSeq_pair hv2 fun m3 hv3 t3 => ?_)))
    refine wpAny_bind (wpAny_letGo (wpAny_pure ?_)); refine wpAny_bind (wpAny_bind (wpAny_onRaise (?_ : wpAny _ _ _ _ _ _)))
    show wpAny _ _ (Builtin.SmallTypes.nextOf (.ref i2) >>= fun _ => _) _ _ _
    refine wpAny_bind (nx_end hh (((g2.but t1.extBut D.i2z).but t2.extBut D.i12.symm).but t3.extBut D.TOi2.symm) (((s2.but t1.extBut D.l2z).but t2.extBut D.l2i1).but t3.extBut D.l2TO) hy fun m4 e t4 he => ?_)
    obtain ⟨oe, he1, he2⟩ := he
    have hq4 : IsZip m4 q u v .ellipsis := t4 _ _ D.i2z.symm (t3.extBut _ _ D.TOz.symm (t2.extBut _ _ D.i1z.symm hq1))
    have neq : e ≠ q := fun z => by
      subst z
      rw [hq4] at he1
      cases he1
      simp at he2
    exact wpAny_setField_rec hq4 (by simp) fun m5 _ t5 => hE m5 e (fun a o n1 n2 n3 n4 z => t5.extBut _ _ n1 (t4 _ _ n4 (t3.extBut _ _ n2 (t2.extBut _ _ n3 (t1.extBut _ _ n1 z))))) ⟨oe, t5.extBut _ _ neq he1, he2⟩
theorem pyNext_zx_item {q u v i1 i2 l1 l2 : Addr} {k1 k2 : Nat} {xs ys : Array Value} {x y p0 p1 : Value} {Q : Option Value → Shared → Prop} (D : ZipApart q u v i1 i2 l1 l2) (hq : IsZip s.heap q u v .none) (hu : IsPair s.heap u (.ref i1) (.ref i2)) (hv : IsPair s.heap v p0 p1)
    (g1 : ItA b s.heap i1 l1 k1) (g2 : ItA c s.heap i2 l2 k2) (s1 : SrcA b s.heap l1 xs) (s2 : SrcA c s.heap l2 ys) (hx : xs[k1]? = some x) (hy : ys[k2]? = some y)
    (hQ : ∀ h', IsZip h' q u v (rawInt s.heap.objs.size) → IsPair h' v x y → ItA b h' i1 l1 (k1 + 1) → ItA c h' i2 l2 (k2 + 1) → IsPair h' s.heap.objs.size x y → h'.objs.size = s.heap.objs.size + 1 →
      (∀ a o, a ≠ q → a ≠ v → a ≠ i1 → a ≠ i2 → s.heap.get? a = some o → h'.get? a = some o) → Q (some (.ref s.heap.objs.size)) { s with heap := h' }) : wpAny (model prog w) A (pyNext (.ref q)) Q E s := by
  have ty : s.TypeIs (.ref q) "zip" := ⟨_, hq, rfl⟩
  unfold pyNext
  refine wpAny_bind (wpAny_attempt (wpAny_callSpecial?_slot (name := Str.ofString "__next__") ty F.slot_zip_next ?_))
  exact wpAny_call_entry F.slot_zip_next ty F.entry_zip_next (zx_item D hq hu hv g1 g2 s1 s2 hx hy fun m r1 r2 r3 r4 r5 r6 r7 => wpAny_pure (hQ m r1 r2 r3 r4 r5 r6 r7)) (F.args_zip_next_1 _)
theorem pyNext_zx_end {q u v i1 i2 l1 l2 : Addr} {k1 k2 : Nat} {xs ys : Array Value} {p0 p1 : Value} {Q : Option Value → Shared → Prop} (hh : A.handled = none) (D : ZipApart q u v i1 i2 l1 l2) (hq : IsZip s.heap q u v .none) (hu : IsPair s.heap u (.ref i1) (.ref i2)) (hv : IsPair s.heap v p0 p1)
    (g1 : ItA b s.heap i1 l1 k1) (g2 : ItA c s.heap i2 l2 k2) (s1 : SrcA b s.heap l1 xs) (s2 : SrcA c s.heap l2 ys) (hend : xs[k1]? = none ∨ ys[k2]? = none)
    (hQ : ∀ h', (∀ a o, a ≠ q → a ≠ v → a ≠ i1 → a ≠ i2 → s.heap.get? a = some o → h'.get? a = some o) → Q none { s with heap := h' }) : wpAny (model prog w) A (pyNext (.ref q)) Q E s := by
  have ty : s.TypeIs (.ref q) "zip" := ⟨_, hq, rfl⟩
  unfold pyNext
  refine wpAny_bind (wpAny_attempt (wpAny_callSpecial?_slot (name := Str.ofString "__next__") ty F.slot_zip_next ?_))
  refine wpAny_call_entry F.slot_zip_next ty F.entry_zip_next (zx_end hh D hq hu hv g1 g2 s1 s2 hend fun m e kp he => ?_) (F.args_zip_next_1 _)
  obtain ⟨o, e1, e2⟩ := he
  exact wpAny_bind (wpAny_isInstance (T := "StopIteration") (b := true) ⟨o, e1, e2⟩ isSubtype_stop (wpAny_pure (hQ _ kp)))
end
def itC : Bool → String
  | true => "tuple_iterator"
  | false => "list_iterator"
def zxH1 (b : Bool) (h : Heap) (l1 : Addr) : Heap := h.push { cls := .type (itC b), data := .fields #[.ref l1, .int 0 0] }
def zxH2 (b c : Bool) (h : Heap) (l1 l2 : Addr) : Heap := (zxH1 b h l1).push { cls := .type (itC c), data := .fields #[.ref l2, .int 0 0] }
def zxH3 (b c : Bool) (h : Heap) (l1 l2 : Addr) : Heap := (zxH2 b c h l1 l2).push { cls := .type "tuple", data := .seq #[.ref h.objs.size, .ref (zxH1 b h l1).objs.size] }
def zxH4 (b c : Bool) (h : Heap) (l1 l2 : Addr) : Heap := (zxH3 b c h l1 l2).push { cls := .type "tuple", data := .seq #[.none, .none] }
def zxH5 (b c : Bool) (h : Heap) (l1 l2 : Addr) : Heap := (zxH4 b c h l1 l2).push { cls := .type "zip", data := .fields #[.none, .bool false, .bool false, .ref (zxH2 b c h l1 l2).objs.size, .ref (zxH3 b c h l1 l2).objs.size] }
theorem meets_zx {b c : Bool} (ne : b ≠ c) (l1 l2 : Addr) (xs ys : Array Value) :
    Meets (Builtin.«zip.__new__» ⟨[.type "zip", .ref l1, .ref l2], []⟩) (fun _ R s => SrcA b s.heap l1 xs ∧ SrcA c s.heap l2 ys ∧ R (.ok (.ret (.ref (zxH4 b c s.heap l1 l2).objs.size))) { s with heap := zxH5 b c s.heap l1 l2 }) :=
  .of_wp fun prog w A R s h => by
    obtain ⟨hp, g, d, tk, os⟩ := s
    obtain ⟨a1, a2, h⟩ := h
    have hsub := sub_zip
    cases b <;> cases c
    · exact absurd rfl ne
    · have b1 : Heap.IsList (Shared.heap ⟨hp, g, d, tk, os⟩) l1 xs := a1
      have b2 : Heap.IsTuple (Shared.heap ⟨hp.push { cls := .type "list_iterator", data := .fields #[.ref l1, .int 0 0] }, g, d, tk, os⟩) l2 ys := Heap.IsTuple.push a2 _
      wp_walk using wpAny_pyIter_list b1, wpAny_pyIter_tuple b2
      exact ⟨_, rfl, h⟩
    · have b1 : Heap.IsTuple (Shared.heap ⟨hp, g, d, tk, os⟩) l1 xs := a1
      have b2 : Heap.IsList (Shared.heap ⟨hp.push { cls := .type "tuple_iterator", data := .fields #[.ref l1, .int 0 0] }, g, d, tk, os⟩) l2 ys := Heap.IsList.push a2 _
      wp_walk using wpAny_pyIter_tuple b1, wpAny_pyIter_list b2
      exact ⟨_, rfl, h⟩
    · exact absurd rfl ne
section
variable {prog : Program} {w : World} {A : Around} {E : Value → Shared → Prop} {s : Shared}
theorem ItA.new (b : Bool) {h : Heap} {i l : Addr} (e : h.get? i = some { cls := .type (itC b), data := .fields #[.ref l, .int 0 0] }) : ItA b h i l 0 := by
  cases b with
  | true => exact ⟨_, e, rfl, rfl⟩
  | false => exact ⟨_, e, rfl, rfl⟩
theorem call_zx {b c : Bool} (ne : b ≠ c) {l1 l2 : Addr} {xs ys : Array Value} {Q : Value → Shared → Prop} (a1 : SrcA b s.heap l1 xs) (a2 : SrcA c s.heap l2 ys)
    (h : ∀ h', IsZip h' (s.heap.objs.size + 4) (s.heap.objs.size + 2) (s.heap.objs.size + 3) .none → IsPair h' (s.heap.objs.size + 2) (.ref s.heap.objs.size) (.ref (s.heap.objs.size + 1)) → IsPair h' (s.heap.objs.size + 3) .none .none →
      ItA b h' s.heap.objs.size l1 0 → ItA c h' (s.heap.objs.size + 1) l2 0 → (∀ a o, s.heap.get? a = some o → h'.get? a = some o) → Q (.ref (s.heap.objs.size + 4)) { s with heap := h' }) :
    wpAny (model prog w) A (call (.type "zip") [.ref l1, .ref l2]) Q E s := by
  refine callType_new F.called_zip (by decide) (F.typeCall_zip_2 _ _) (F.newCall_zip_2 _ _) (fun o => F.args_object_init_3 o _ _) F.entry_zip_new (meets_zx ne l1 l2 xs ys) ⟨a1, a2, ?_⟩
  have n1 : (zxH1 b s.heap l1).objs.size = s.heap.objs.size + 1 := Heap.size_push ..
  have n2 : (zxH2 b c s.heap l1 l2).objs.size = s.heap.objs.size + 2 := (Heap.size_push ..).trans (by rw [n1])
  have n3 : (zxH3 b c s.heap l1 l2).objs.size = s.heap.objs.size + 3 := (Heap.size_push ..).trans (by rw [n2])
  have n4 : (zxH4 b c s.heap l1 l2).objs.size = s.heap.objs.size + 4 := (Heap.size_push ..).trans (by rw [n3])
  have up : ∀ {h : Heap} {a : Addr} {o x : Obj}, h.get? a = some o → (h.push x).get? a = some o := fun e => Heap.get?_push_of_some _ e
  have k5 : (zxH5 b c s.heap l1 l2).get? (zxH4 b c s.heap l1 l2).objs.size = some { cls := .type "zip", data := .fields #[.none, .bool false, .bool false, .ref (zxH2 b c s.heap l1 l2).objs.size, .ref (zxH3 b c s.heap l1 l2).objs.size] } := Heap.get?_push_size _ rfl
  have k4 : (zxH5 b c s.heap l1 l2).get? (zxH3 b c s.heap l1 l2).objs.size = some { cls := .type "tuple", data := .seq #[.none, .none] } := up (Heap.get?_push_size _ rfl)
  have k3 : (zxH5 b c s.heap l1 l2).get? (zxH2 b c s.heap l1 l2).objs.size = some { cls := .type "tuple", data := .seq #[.ref s.heap.objs.size, .ref (zxH1 b s.heap l1).objs.size] } := up (up (Heap.get?_push_size _ rfl))
  have k2 : (zxH5 b c s.heap l1 l2).get? (zxH1 b s.heap l1).objs.size = some { cls := .type (itC c), data := .fields #[.ref l2, .int 0 0] } := up (up (up (Heap.get?_push_size _ rfl)))
  have k1 : (zxH5 b c s.heap l1 l2).get? s.heap.objs.size = some { cls := .type (itC b), data := .fields #[.ref l1, .int 0 0] } := up (up (up (up (Heap.get?_push_size _ rfl))))
  show _ ∧ _
  rw [n2, n3, n4] at k5
  rw [n1, n2] at k3
  rw [n3] at k4
  rw [n1] at k2
  rw [n4]
  exact ⟨⟨_, k5, rfl⟩, h _ k5 k3 k4 (.new b k1) (.new c k2) fun a o e => up (up (up (up (up e))))⟩
end
/-- a readable sequence: a tuple (true), a list -/
def SqA (b : Bool) (K : PySem.W.Frag) (H : Hp) (a : Addr) (xs : List V) : Prop := match b with
  | true => SqT K H a xs
  | false => SqL K H a xs
theorem SqA.src {b : Bool} {X : Cx} {pins : List (Addr × Obj)} {σ : L2.St} {H : Hp} {s : Shared} {a : Addr} {xs : List V} (I : Inv X pins σ H s) (h : SqA b X.K H a xs) : ∃ its : List Value, Vals xs its ∧ SrcA b s.heap a its.toArray := by
  cases b with
  | true =>
    obtain ⟨its, r, p, _⟩ := I.tuple h
    exact ⟨its, r, p⟩
  | false =>
    obtain ⟨its, r, p, _⟩ := I.list h
    exact ⟨its, r, p.isList⟩
theorem SqA.inj {b : Bool} {X : Cx} {pins : List (Addr × Obj)} {σ : L2.St} {H : Hp} {s : Shared} {a : Addr} {xs ys : List V} (I : Inv X pins σ H s) (h : SqA b X.K H a xs) (h' : SqA b X.K H a ys) : xs = ys := by
  cases b with
  | true => exact I.tuple_inj h h'
  | false => exact I.list_inj h h'
theorem SrcA.lt {b : Bool} {h : Heap} {a : Addr} {xs : Array Value} (x : SrcA b h a xs) : a < h.objs.size := by
  cases b with
  | true =>
    obtain ⟨o, e, _⟩ := id (show h.IsTuple a xs from x)
    exact Heap.lt_size e
  | false =>
    obtain ⟨o, e, _⟩ := id (show h.IsList a xs from x)
    exact Heap.lt_size e
def ItzA (b c : Bool) (K : PySem.W.Frag) (a d : Addr) : It :=
  ⟨fun i H => ∃ (xs ys : List V) (x y : V), SqA b K H a xs ∧ SqA c K H d ys ∧ xs[i]? = some x ∧ ys[i]? = some y,
    fun i H v H' => ∃ T x y, v = .ref T ∧ H T = none ∧ H' = upd H T (.tup [x, y]) ∧ (∀ xs, SqA b K H a xs → xs[i]? = some x) ∧ ∀ ys, SqA c K H d ys → ys[i]? = some y,
    fun i H => ∃ xs ys : List V, SqA b K H a xs ∧ SqA c K H d ys ∧ (xs.length ≤ i ∨ ys.length ≤ i)⟩
theorem turn_zx {b c : Bool} {P : Program} {w : World} {K : PySem.W.Frag} {elts : List Expr} {kk : Nat} {tpos : Pos} {a d q u v i1 i2 : Addr} (D : ZipApart q u v i1 i2 a d) :
    Turn P w K (.Tuple elts kk tpos) (ItzA b c K a d) [q, u, v, i1, i2] q (fun i h => IsZip h q u v .none ∧ IsPair h u (.ref i1) (.ref i2) ∧ (∃ x y, IsPair h v x y) ∧ ItA b h i1 a i ∧ ItA c h i2 d i) where
  mem := List.mem_cons_self
  obj := fun i h st e he => by
    obtain ⟨hq, hu, ⟨x, y, hv⟩, g1, g2⟩ := st
    simp only [List.mem_cons, List.not_mem_nil, or_false] at he
    rcases he with rfl | rfl | rfl | rfl | rfl
    · exact ⟨_, hq, fun z k => nomatch k⟩
    · exact ⟨_, hu, fun z k => nomatch k⟩
    · exact ⟨_, hv, fun z k => nomatch k⟩
    · obtain ⟨o, e1, vs, e2⟩ := g1.obj
      exact ⟨o, e1, fun z k => by rw [e2] at k; cases k⟩
    · obtain ⟨o, e1, vs, e2⟩ := g2.obj
      exact ⟨o, e1, fun z k => by rw [e2] at k; cases k⟩
  keep := fun i h h' st k => by
    obtain ⟨hq, hu, ⟨x, y, hv⟩, g1, g2⟩ := st
    exact ⟨k q (by simp) _ hq, k u (by simp) _ hu, ⟨x, y, k v (by simp) _ hv⟩, g1.there fun o e => k i1 (by simp) o e, g2.there fun o e => k i2 (by simp) o e⟩
  item := by
    rintro X rfl rfl rfl hc i pins s σ H E I hf ⟨hq, hu, ⟨x0, y0, hv⟩, g1, g2⟩ ⟨xs, ys, x, y, sx, sy, hx, hy⟩
    obtain ⟨its, rv, p⟩ := sx.src I
    obtain ⟨its2, rv2, p2⟩ := sy.src I
    obtain ⟨w1, hw1, rw1⟩ := rv.get hx
    obtain ⟨w2, hw2, rw2⟩ := rv2.get hy
    have lq : q < s.heap.objs.size := Heap.lt_size hq
    refine pyNext_zx_item D hq hu hv g1 g2 p p2 (x := w1) (y := w2) (by simpa using hw1) (by simpa using hw2) fun m hq1 hv1 g11 g21 hT size kp => ?_
    refine ⟨_, rfl, wpAny_letOwnedTupleGo_zip (s := { s with heap := m }) hq1 fun m2 hq2 sb => ?_⟩
    have hT2 : m2.get? s.heap.objs.size = some { cls := .type "tuple", data := .seq #[w1, w2] } := (sb.2 _ (Nat.ne_of_gt lq)).trans hT
    have new : ObjOk X.prog X.w (upd H s.heap.objs.size (.tup [x, y])) m2 s.heap.objs.size (.tup [x, y]) := ⟨by show 2 ≤ sizeLine; decide, [w1, w2], .cons rw1 (.cons rw2 .nil), ⟨_, hT2, rfl, _, rfl⟩⟩
    have far : ∀ e o, e ∉ [q, u, v, i1, i2] → s.heap.get? e = some o → m2.get? e = some o := fun e o n g => by
      simp only [List.mem_cons, List.not_mem_nil, or_false, not_or] at n
      exact (sb.2 e n.1).trans (kp e o n.1 n.2.2.1 n.2.2.2.1 n.2.2.2.2 g)
    have I1 : Inv X pins σ (upd H s.heap.objs.size (.tup [x, y])) { s with heap := m2 } := I.turnedNew (t' := s.toks) (ch := [q, u, v, i1, i2]) far hf (Nat.le_refl _) new
    refine ⟨.ref s.heap.objs.size, _, I1, rfl, ⟨_, x, y, rfl, I.hok.fresh (Nat.le_refl _), rfl, fun l hl => by rw [hl.inj I sx]; exact hx, fun l hl => by rw [hl.inj I sy]; exact hy⟩, ⟨hq2, ?_, ⟨w1, w2, ?_⟩, ?_, ?_⟩, fun e he => ?_⟩
    · exact (sb.2 _ D.TIz).trans (kp _ _ D.TIz D.TITO D.TIi1 D.TIi2 hu)
    · exact (sb.2 _ D.TOz).trans hv1
    · exact g11.there fun o e => (sb.2 _ D.i1z).trans e
    · exact g21.there fun o e => (sb.2 _ D.i2z).trans e
    · have lt : e < s.heap.objs.size := by
        simp only [List.mem_cons, List.not_mem_nil, or_false] at he
        rcases he with rfl | rfl | rfl | rfl | rfl
        · exact lq
        · exact Heap.lt_size hu
        · exact Heap.lt_size hv
        · obtain ⟨o, e1, _⟩ := g1.obj
          exact Heap.lt_size e1
        · obtain ⟨o, e1, _⟩ := g2.obj
          exact Heap.lt_size e1
      rw [upd_ne (Nat.ne_of_lt lt)]
      exact (hf e he).1
  done := by
    rintro X rfl rfl rfl hc i pins s σ H E I hf ⟨hq, hu, ⟨x0, y0, hv⟩, g1, g2⟩ ⟨xs, ys, sx, sy, hend⟩
    obtain ⟨its, rv, p⟩ := sx.src I
    obtain ⟨its2, rv2, p2⟩ := sy.src I
    have e1 := rv.length
    have e2 := rv2.length
    have he : its.toArray[i]? = none ∨ its2.toArray[i]? = none := by
      rcases hend with z | z
      · exact .inl (by simp; omega)
      · exact .inr (by simp; omega)
    refine pyNext_zx_end (I.ok.hd hc) D hq hu hv g1 g2 p p2 he fun m kp => ⟨rfl, I.turnedL (t' := s.toks) (ch := [q, u, v, i1, i2]) (fun e o n g => ?_) hf⟩
    simp only [List.mem_cons, List.not_mem_nil, or_false, not_or] at n
    exact kp e o n.1 n.2.2.1 n.2.2.2.1 n.2.2.2.2 g
  self := fun A i s Q E st h => wpAny_pyIter_zip st.1 h
def iZipX (b c : Bool) (K : PySem.W.Frag) (ta : TA) : TI := fun σ H R => ta σ H fun vs H1 => ∃ a d xs ys, vs = [.ref a, .ref d] ∧ SqA b K H1 a xs ∧ SqA c K H1 d ys ∧ R (ItzA b c K a d) H1
theorem pi_zx {b c : Bool} (ne : b ≠ c) {X : Cx} {e e2 : Expr} {ta : TA} {p pos tpos : Pos} {elts : List Expr} {kk : Nat} (hg : Gl X "zip") (hm : X.mg "zip" = none) (ha : PA X [e, e2] ta)
    (hs : starEach [e, e2] X.env = (false, eval e X.env) :: starEach [e2] X.env) (hpl : (backTo pos (starEach [e2] X.env)).any (·.1) = false) :
    PI X (.Tuple elts kk tpos) (.Call (.Name "zip" p) [e, e2] [] pos) (iZipX b c X.K ta) := by
  constructor
  intro pins s σ H R I h
  refine Call_ (ld_blt I hg hm PyProof.Rows.boot_zip (PyProof.Rows.callWith_type1 (thn (ha.run pos pins s σ H _ I h) ?_) hs hpl))
  rintro us s1 ⟨vs, H1, I1, r1, a, d, xs, ys, rfl, sx, sy, hR⟩
  cases r1 with
  | cons r rr =>
    cases rr with
    | cons r' rr =>
      cases rr
      cases r
      cases r'
      obtain ⟨its, rv, p1⟩ := sx.src I1
      obtain ⟨its2, rv2, p2⟩ := sy.src I1
      refine call_zx ne p1 p2 fun m hq hu hv g1 g2 kp => wpAny_pyIter_zip hq ?_
      have I2 : Inv X pins σ H1 { s1 with heap := m } := I1.kept (t' := s1.toks) kp
      refine ⟨s1.heap.objs.size + 4, [s1.heap.objs.size + 4, s1.heap.objs.size + 2, s1.heap.objs.size + 3, s1.heap.objs.size, s1.heap.objs.size + 1], _, _, H1, rfl, I2, turn_zx (PySem.W.ktu_apart s1.heap.objs.size a d p1.lt p2.lt), ⟨hq, hu, ⟨_, _, hv⟩, g1, g2⟩, fun e he => ?_, hR⟩
      have le : s1.heap.objs.size ≤ e := by
        simp only [List.mem_cons, List.not_mem_nil, or_false] at he
        rcases he with rfl | rfl | rfl | rfl | rfl <;> omega
      exact I1.fpOk le (I1.hok.fresh le)
section
end
end FE

namespace FE
open PySem PySem.Spec PyProof.Rows L2
theorem Ex.sqA {b : Bool} {K : PySem.W.Frag} {H H' : Hp} {a : Addr} {xs : List V} (e : Ex H H') (h : SqA b K H a xs) : SqA b K H' a xs := by
  cases b with
  | true => exact e.t h
  | false => exact e.l h
theorem it_zx {b c : Bool} {G : Gd} {F : Hp} {a d : Addr} {vs ws : List V} {ds es : List D} (h : SqA b G.K F a vs) (r : RepL G F vs ds) (h' : SqA c G.K F d ws) (r' : RepL G F ws es) : ItRep G (ItzA b c G.K a d) F (zipD ds es) where
  go := fun k F1 H1 e1 e2 hk => by
    rw [zip_len] at hk
    obtain ⟨v, hv, _⟩ := r.get (List.getElem?_eq_getElem (show k < ds.length by omega))
    obtain ⟨w, hw, _⟩ := r'.get (List.getElem?_eq_getElem (show k < es.length by omega))
    exact ⟨vs, ws, v, w, (e1.trans e2).sqA h, (e1.trans e2).sqA h', hv, hw⟩
  stop := fun k F1 H1 e1 e2 hk => by
    rw [zip_len] at hk
    refine ⟨vs, ws, (e1.trans e2).sqA h, (e1.trans e2).sqA h', ?_⟩
    rw [r.length, r'.length]
    omega
  yld := fun k x F1 H1 y H2 e1 e2 hd hy => by
    obtain ⟨T, x', y', rfl, hT, rfl, f1, f2⟩ := hy
    obtain ⟨d1, d2, g1, g2, rfl⟩ := zip_get ds es k x hd
    obtain ⟨v, hv, rv⟩ := r.get g1
    obtain ⟨w, hw, rw'⟩ := r'.get g2
    have z1 := f1 vs ((e1.trans e2).sqA h)
    have z2 := f2 ws ((e1.trans e2).sqA h')
    rw [hv] at z1
    rw [hw] at z2
    cases z1
    cases z2
    have fT : F1 T = none := by
      cases q : F1 T with
      | none => rfl
      | some o =>
        rw [e2 T o q] at hT
        cases hT
    exact .inr ⟨T, _, hT, rfl, .wtp (.inl (.inl upd_same)) (.cons ((rv.mono e1).mono (Ex.new fT)) (.cons ((rw'.mono e1).mono (Ex.new fT)) .nil))⟩
def zqD : List D → Option (List D)
  | [.lst ds, .lst es] => some (zipD ds es)
  | [.tup ds, .tup es] => some (zipD ds es)
  | [.lst ds, .tup es] => some (zipD ds es)
  | [.tup ds, .lst es] => some (zipD ds es)
  | _ => none
def iZqK (ds : List D) (e : FE.Env) : OI := match zqD ds with
  | some xs => .ok xs e
  | none => .bad
def iZq (os : FE.Env → OA) : FE.Env → OI := fun env => (os env).bindI iZqK
theorem e_iZq (os : FE.Env → OA) (env : FE.Env) : iZq os env = (os env).bindI iZqK := (rfl)
theorem e_iZqK (ds : List D) (e : FE.Env) : iZqK ds e = okI (zqD ds) e := by
  unfold iZqK okI
  rfl
theorem e_zq_ll (ds es : List D) : zqD [.lst ds, .lst es] = some (zipD ds es) := (rfl)
theorem e_zq_tt (ds es : List D) : zqD [.tup ds, .tup es] = some (zipD ds es) := (rfl)
theorem e_zq_lt (ds es : List D) : zqD [.lst ds, .tup es] = some (zipD ds es) := (rfl)
theorem e_zq_tl (ds es : List D) : zqD [.tup ds, .lst es] = some (zipD ds es) := (rfl)
section
variable {X : Cx} {Z : Zd} {a b : Expr} {os : FE.Env → OA} {p pos tpos : Pos} {elts : List Expr} {kk : Nat}
theorem n_zipq (hm : X.mg "zip" = none) (hK : Z.G.K = X.K) (ha : PA X [a, b] (tA Z os)) (hg : Gl X "zip" := by rfl) (hs : starEach [a, b] X.env = (false, eval a X.env) :: starEach [b] X.env := by rfl) (hpl : (backTo pos (starEach [b] X.env)).any (·.1) = false := by rfl) :
    PI X (.Tuple elts kk tpos) (.Call (.Name "zip" p) [a, b] [] pos) (tI Z (iZq os)) := by
  refine PI.imp (PI.or (RZ.pi_zipA hg hm ha hs hpl) (PI.or (pi_zx (b := false) (c := true) (by decide) hg hm ha hs hpl) (pi_zx (b := true) (c := false) (by decide) hg hm ha hs hpl))) fun σ H Q ⟨F, env, g, h⟩ => ?_
  rw [← hK]
  unfold iZq at h
  have core : ∀ k : List V → Hp → Prop, (∀ ds env1 vs H1 F1, Good Z F1 σ H1 env1 → Ex F F1 → RepL Z.G F1 vs ds → PostI Z F1 σ Q (iZqK ds env1) → os env = .ok ds env1 → k vs H1) → tA Z os σ H k := by
    intro k c
    refine ⟨F, env, g, ?_⟩
    cases e : os env with
    | ok r env1 =>
      rw [e] at h
      exact fun vs H1 F1 g1 x1 r1 => c r env1 vs H1 F1 g1 x1 r1 (PostI.up x1 h) e
    | exc x env1 => rw [e] at h; exact h
    | bad => rw [e] at h; exact h
  cases e : os env with
  | bad => rw [e] at h; exact h.elim
  | exc x env1 => exact .inl (core _ fun ds env1 vs H1 F1 g1 x1 r1 h1 e2 => by rw [e] at e2; cases e2)
  | ok ds0 env0 =>
    have hz : ∃ xs, zqD ds0 = some xs := by
      rw [e] at h
      cases q : zqD ds0 with
      | some xs => exact ⟨xs, rfl⟩
      | none =>
        have h : PostI Z F σ Q (iZqK ds0 env0) := h
        unfold iZqK at h
        rw [q] at h
        exact h.elim
    obtain ⟨xs, hz⟩ := hz
    have fin : ∀ {env1 H1 F1 J}, Good Z F1 σ H1 env1 → PostI Z F1 σ Q (iZqK ds0 env1) → ItRep Z.G J F1 xs → Q J H1 := fun {env1 H1 F1 J} g1 h1 it => by
      unfold iZqK at h1
      rw [hz] at h1
      exact h1 _ H1 F1 g1 (Ex.refl F1) it
    unfold zqD at hz
    split at hz
    · cases hz
      refine .inl (core _ fun ds env1 vs H1 F1 g1 x1 r1 h1 e2 => ?_)
      rw [e] at e2
      cases e2
      obtain ⟨v, w, rfl, rv, rw'⟩ := r1.two
      cases rv with
      | lst l1 l2 =>
        cases rw' with
        | lst m1 m2 => exact ⟨_, _, _, _, rfl, .inl ⟨(g1.fh.lr l1).sq, (g1.fh.lr m1).sq, fin g1 h1 (it_zip l1 l2 m1 m2)⟩⟩
    · cases hz
      refine .inl (core _ fun ds env1 vs H1 F1 g1 x1 r1 h1 e2 => ?_)
      rw [e] at e2
      cases e2
      obtain ⟨v, w, rfl, rv, rw'⟩ := r1.two
      cases rv with
      | tup l1 l2 =>
        cases rw' with
        | tup m1 m2 => exact ⟨_, _, _, _, rfl, .inr ⟨g1.fh.t l1.t, g1.fh.t m1.t, fin g1 h1 (it_zipT l1.t l2 m1.t m2)⟩⟩
    · cases hz
      refine .inr (.inl (core _ fun ds env1 vs H1 F1 g1 x1 r1 h1 e2 => ?_))
      rw [e] at e2
      cases e2
      obtain ⟨v, w, rfl, rv, rw'⟩ := r1.two
      cases rv with
      | lst l1 l2 =>
        cases rw' with
        | tup m1 m2 => exact ⟨_, _, _, _, rfl, (g1.fh.lr l1).sq, g1.fh.t m1.t, fin g1 h1 (it_zx (b := false) (c := true) l1.sq l2 m1.t m2)⟩
    · cases hz
      refine .inr (.inr (core _ fun ds env1 vs H1 F1 g1 x1 r1 h1 e2 => ?_))
      rw [e] at e2
      cases e2
      obtain ⟨v, w, rfl, rv, rw'⟩ := r1.two
      cases rv with
      | tup l1 l2 =>
        cases rw' with
        | lst m1 m2 => exact ⟨_, _, _, _, rfl, g1.fh.t l1.t, (g1.fh.lr m1).sq, fin g1 h1 (it_zx (b := true) (c := false) l1.t l2 m1.sq m2)⟩
    · cases hz
end
end FE

namespace FE
open PySem PySem.Spec PyProof.Rows L2
def asgO : Option FE.Env → OS
  | some e => .nx e
  | none => .bad
def asgTK (f : D → FE.Env → Option FE.Env) (r : R) (e : FE.Env) : OS := asgO (f r.fz e)
def sAsgT (f : D → FE.Env → Option FE.Env) (oa : FE.Env → OE) : FE.Env → OS := fun env => (oa env).bindS (asgTK f)
theorem e_asgT (f : D → FE.Env → Option FE.Env) (oa : FE.Env → OE) (env : FE.Env) : sAsgT f oa env = (oa env).bindS (asgTK f) := (rfl)
theorem e_asgTK (f : D → FE.Env → Option FE.Env) (r : R) (e : FE.Env) : asgTK f r e = asgO (f r.fz e) := (rfl)
theorem e_asgO (e : FE.Env) : asgO (some e) = .nx e := (rfl)
section
variable {X : Cx} {Z : Zd} {a tg : Expr} {oa : FE.Env → OE} {ok : FE.Env → OA} {pos : Pos} {ws : List Nat} {g : TG} {f : D → FE.Env → Option FE.Env}
theorem n_asgT (ws : List Nat) (ha : PE X a (tE Z oa)) (hg : PG X tg g) (ht : TgOk Z.G ws g f) (hs : swapsWithSole [tg] a pos.line X.env = pure false := by rfl) (hw : swappedStores [tg] a X.env = pure none := by rfl)
    (h1 : (assignEach [tg] X.env).map (·.2) = [assign tg X.env] := by rfl) : PS X (.Assign [tg] a pos) (tS Z (sAsgT f oa)) := by
  refine PS.imp (ps_asg ha hg hs hw h1) fun Dn σ H ⟨F, env, gd, h⟩ => ?_
  refine seqES gd h fun r env1 v H1 F1 g1 x1 r1 h1 => ?_
  obtain ⟨F2, g2, x2, r2⟩ := g1.give r1
  replace h1 := PostS.up x2 h1
  unfold asgTK at h1
  cases q : f r.fz env1 with
  | none => rw [q] at h1; exact h1.elim
  | some env2 =>
    rw [q] at h1
    exact ht Z F2 σ H1 env1 env2 v _ _ rfl g2 r2 q fun σ' g3 _ _ => h1 σ' H1 F2 g3 (Ex.refl F2)
/-- f(k = v, ..) -/
def oCall0 (f : List D → OC) (m : Nat) (ok : FE.Env → OA) : FE.Env → OE := fun env => (ok env).bindE (calK2 f 0 m (fun _ es => es) [])
theorem e_call0 (f : List D → OC) (m : Nat) (ok : FE.Env → OA) (env : FE.Env) : oCall0 f m ok env = (ok env).bindE (calK2 f 0 m (fun _ es => es) []) := (rfl)
theorem n_call0 {k np : Nat} {ks : List PySem.Str} {fo : List D → OC} {x : PySem.Str} {p : Pos} {kws : List Keyword} (c : Cal X.prog X.w X.K X.mg X.base k x 0 ks (fun _ zs => zs) (spF Z.G Z.C np none fo)) (hx : RoomX k X) (tk : Takes X Z.W) (hnp : np = ks.length) (hkw : PK X kws (tA Z ok))
    (hgl : Gl X x := by rfl) (hall : (backToKw pos (keywordEach kws X.env)).all (·.1.isSome) = true := by rfl) (hks : (backToKw pos (keywordEach kws X.env)).filterMap (·.1) = ks := by rfl)
    (hdb : (x == ("__debug__" : PySem.Str)) = false := by decide) (hpl : ((backTo pos (starEach [] X.env)).any (·.1) || (backToKw pos (keywordEach kws X.env)).any (·.1.isNone)) = false := by rfl) :
    PE X (.Call (.Name x p) [] kws pos) (tE Z (oCall0 fo ks.length ok)) := by
  obtain ⟨f, fd, ps, gg, hm, hk, F, hb⟩ := c.ex
  constructor
  rintro pins s σ H Q I ⟨F0, env, gd, h⟩
  refine wpAny_Call_Name_kw (ld_glob I hgl hm ?_ hdb)
  refine PySem.W.callWith_KW0 (h₀ := X.base) I.ok.mod.kin hk hall ?_ hpl
  have h0 : tA Z ok σ H (fun zs H2 => zs.length = ks.length ∧ spF Z.G Z.C np none fo zs H2 Q (fun cls d H' => Z.W cls d σ H')) := by
    refine seqAE gd h fun es env2 zs H2 F2 g2 x2 r2 h2 => ?_
    unfold calK2 at h2
    split at h2
    case isFalse => exact h2.elim
    rename_i hl
    have l2 : zs.length = ks.length := r2.length.trans hl.2
    refine ⟨l2, F2, es, [], l2.trans hnp.symm, argsOk_all g2.fh r2, ?_⟩
    cases q : fo es with
    | bad => rw [q] at h2; exact h2
    | exc y out =>
      rw [q] at h2
      exact fun cls d H' F' b rx => h2 cls d H' F' (g2.callee b (fun a h => by cases h) (fun a h => by cases h)) b.ff rx
    | ret r out =>
      rw [q] at h2
      exact fun v H' F' b rr => h2 v H' F' (g2.callee b (fun a h => by cases h) (fun a h => by cases h)) b.ff (retOk_rep g2 (fun j s e1 e2 => ⟨s, e1, e2⟩) rr)
  refine thn (hkw.run pos pins s σ H _ I h0) ?_
  rintro us s2 ⟨zs, H2, I2, rz, l2, q2⟩
  refine ⟨I2.kIn, ?_⟩
  rw [hks]
  have r2 := hb.rel (vs := []) (us := []) .nil rz
  have bt := hb.to s2 [] us I2.kIn rfl (rz.length.symm.trans l2)
  refine wpAny_call (codeAny_mono (F.run X.A X.stack s2 H2 ⟨[], ks.zip us⟩ (gg [] us) zs Q (fun cls d H' => Z.W cls d σ H') hx.r hx.g I2.env0 bt r2 q2) ?_)
  intro r s' hq
  cases r with
  | error e => exact tk e s' (XE.of_call I2 (fun _ _ _ z => z) hq)
  | ok fl =>
    cases fl with
    | ret u => exact I2.after hq
    | next => exact False.elim hq
    | brk => exact False.elim hq
    | cont => exact False.elim hq
end
/-- .. all by name -/
theorem cal_k0 {P : Program} {w : World} {K : PySem.W.Frag} {mg : PySem.Str → Option Value} {base h : Heap} {k : Nat} {x : PySem.Str} {params : Arguments} {body : List Stmt} {scope : Scope} {fd : FuncData} {ps : List PySem.Str} {sp : Sp} (ks : List PySem.Str)
    (X : K.In h) (G : h.Ns mainGlobals mg) (g : (He.Fa.glo x).ok K = true) (F : FunD K x x params body scope [] [] (He.ga K x) fd) (fn : FnG P w K mg base k (He.ga K x) fd ps sp)
    (b : ∀ (kV doc pm : Value) (an : Option Addr) (cdv ct : Value) (ws : List Value), ws.length = ks.length → bindArgs (PySem.W.fnOf x x params body scope .none kV doc pm an cdv ct) ⟨[], ks.zip ws⟩ = pure (ps.zip ws)) : Cal P w K mg base k x 0 ks (fun _ zs => zs) sp := by
  refine ⟨_, fd, ps, fun _ ws => ws, He.glo_ok X G g, F.kp, fn, ?_⟩
  obtain ⟨oc, od, dV, kV, doc, pm, an, cdv, ct, osl, rfl, lk, hcd, hD, hK⟩ := F.ex
  rcases hD with ⟨_, rfl⟩ | ⟨e, _⟩
  · constructor
    · intro s us ws KX l1 l2
      have : us = [] := List.length_eq_zero_iff.mp l1
      subst this
      exact .of_eq (b kV doc pm an cdv ct ws l2)
    · exact fun _ r2 => r2
  · exact absurd rfl e
end FE

namespace FE
open PySem PySem.Spec PyProof.Rows L2
/-! ### rows of numbers -/
def dot : List Int → List Int → Int
  | a :: as, b :: bs => a * b + dot as bs
  | _, _ => 0
/-- what a row is worth at values -/
def rwv : List Int → List Int → Int
  | x :: xs, vs => x + dot xs vs
  | [], _ => 0
def addZ (t : Int) : List Int → List Int → List Int
  | h :: hs, m :: ms => (h + t * m) :: addZ t hs ms
  | _, _ => []
/-- all rows added, each times its weight -/
def addS : List Int → List (List Int) → List Int → List Int
  | tot, r :: rs, t :: ts => addS (addZ t tot r) rs ts
  | tot, _, _ => tot
theorem addZ_len (t : Int) : ∀ (a b : List Int), a.length = b.length → (addZ t a b).length = a.length
  | [], [], _ => rfl
  | h :: hs, m :: ms, e => by
    show (addZ t hs ms).length + 1 = hs.length + 1
    rw [addZ_len t hs ms (by simpa using e)]
  | [], _ :: _, e => by simp at e
  | _ :: _, [], e => by simp at e
theorem dot_add (t : Int) : ∀ (a b vs : List Int), a.length = b.length → dot (addZ t a b) vs = dot a vs + t * dot b vs
  | [], [], vs, _ => by simp [addZ, dot]
  | h :: hs, m :: ms, [], _ => by simp [addZ, dot]
  | h :: hs, m :: ms, v :: vs, e => by
    have ih := dot_add t hs ms vs (by simpa using e)
    show (h + t * m) * v + dot (addZ t hs ms) vs = h * v + dot hs vs + t * (m * v + dot ms vs)
    rw [ih, Int.add_mul, Int.mul_add, Int.mul_assoc]
    omega
  | [], _ :: _, _, e => by simp at e
  | _ :: _, [], _, e => by simp at e
theorem rwv_add (t : Int) : ∀ (a b vs : List Int), a.length = b.length → rwv (addZ t a b) vs = rwv a vs + t * rwv b vs
  | [], [], vs, _ => by simp [addZ, rwv]
  | h :: hs, m :: ms, vs, e => by
    have ih := dot_add t hs ms vs (by simpa using e)
    show h + t * m + dot (addZ t hs ms) vs = h + dot hs vs + t * (m + dot ms vs)
    rw [ih, Int.mul_add]
    omega
  | [], _ :: _, _, e => by simp at e
  | _ :: _, [], _, e => by simp at e
/-- the worths, weighed -/
def weigh (vs : List Int) : List (List Int) → List Int → Int
  | r :: rs, t :: ts => t * rwv r vs + weigh vs rs ts
  | _, _ => 0
theorem rwv_all (vs : List Int) : ∀ (rs : List (List Int)) (ts tot : List Int), (∀ r ∈ rs, r.length = tot.length) → rwv (addS tot rs ts) vs = rwv tot vs + weigh vs rs ts
  | [], ts, tot, _ => by
    cases ts <;> simp [addS, weigh]
  | r :: rs, [], tot, _ => by simp [addS, weigh]
  | r :: rs, t :: ts, tot, h => by
    have hr := h r List.mem_cons_self
    have ih := rwv_all vs rs ts (addZ t tot r) fun q hq => by
      rw [addZ_len t tot r hr.symm]
      exact h q (List.mem_cons_of_mem _ hq)
    show rwv (addS (addZ t tot r) rs ts) vs = rwv tot vs + (t * rwv r vs + weigh vs rs ts)
    rw [ih, rwv_add t tot r vs hr.symm]
    omega
/-- a column's sum -/
def col (i : Nat) : List (List Int) → List Int → Int
  | r :: rs, t :: ts => t * r.getD i 0 + col i rs ts
  | _, _ => 0
theorem addZ_get (t : Int) : ∀ (a b : List Int) (i : Nat), a.length = b.length → (addZ t a b).getD i 0 = a.getD i 0 + t * b.getD i 0
  | [], [], i, _ => by simp [addZ]
  | h :: hs, m :: ms, 0, _ => by simp [addZ]
  | h :: hs, m :: ms, i + 1, e => by
    have ih := addZ_get t hs ms i (by simpa using e)
    simpa [addZ] using ih
  | [], _ :: _, _, e => by simp at e
  | _ :: _, [], _, e => by simp at e
theorem addS_get (i : Nat) : ∀ (rs : List (List Int)) (ts tot : List Int), (∀ r ∈ rs, r.length = tot.length) → (addS tot rs ts).getD i 0 = tot.getD i 0 + col i rs ts
  | [], ts, tot, _ => by
    cases ts <;> simp [addS, col]
  | r :: rs, [], tot, _ => by simp [addS, col]
  | r :: rs, t :: ts, tot, h => by
    have hr := h r List.mem_cons_self
    have ih := addS_get i rs ts (addZ t tot r) fun q hq => by
      rw [addZ_len t tot r hr.symm]
      exact h q (List.mem_cons_of_mem _ hq)
    show (addS (addZ t tot r) rs ts).getD i 0 = tot.getD i 0 + (t * r.getD i 0 + col i rs ts)
    rw [ih, addZ_get t tot r i hr.symm]
    omega
theorem addS_len : ∀ (rs : List (List Int)) (ts tot : List Int), (∀ r ∈ rs, r.length = tot.length) → (addS tot rs ts).length = tot.length
  | [], ts, tot, _ => by
    cases ts <;> rfl
  | r :: rs, [], tot, _ => rfl
  | r :: rs, t :: ts, tot, h => by
    have hr := h r List.mem_cons_self
    show (addS (addZ t tot r) rs ts).length = tot.length
    rw [addS_len rs ts (addZ t tot r) fun q hq => by
      rw [addZ_len t tot r hr.symm]
      exact h q (List.mem_cons_of_mem _ hq), addZ_len t tot r hr.symm]
theorem dot_zero (n : Nat) : ∀ vs : List Int, dot (List.replicate n 0) vs = 0 := by
  induction n with
  | zero => intro vs; cases vs <;> rfl
  | succ n ih =>
    intro vs
    cases vs with
    | nil => rfl
    | cons v vs =>
      show 0 * v + dot (List.replicate n 0) vs = 0
      rw [ih, Int.zero_mul]
      rfl
theorem rwv_zero (n : Nat) (vs : List Int) : rwv (List.replicate n 0) vs = 0 := by
  cases n with
  | zero => rfl
  | succ n =>
    show 0 + dot (List.replicate n 0) vs = 0
    rw [dot_zero]
    rfl
/-! ### enumerate, as equations -/
def enD : List D → Option (List D)
  | [.lst ds] => some (enumD 0 ds)
  | _ => none
def iEnK (ds : List D) (e : FE.Env) : OI := okI (enD ds) e
theorem e_iEn (os : FE.Env → OA) (env : FE.Env) : iEnm os env = (os env).bindI iEnK := by
  unfold iEnm
  congr 1
  funext ds e
  unfold iEnK enD
  split
  · rfl
  · first
    | rfl
    | (rename_i h1
       split
       · exact absurd rfl (h1 _)
       · rfl)
theorem e_iEnK (ds : List D) (e : FE.Env) : iEnK ds e = okI (enD ds) e := (rfl)
theorem e_enD (ds : List D) : enD [.lst ds] = some (enumD 0 ds) := (rfl)
theorem at_nat {xs : List Int} {k : Nat} (h : k < xs.length) : L2.atI (intsL xs) (k : Int) = some (.int xs[k]) := by
  unfold L2.atI L2.ixN intsL
  rw [if_pos (by omega), if_pos (by rw [List.length_map]; omega)]
  show (xs.map D.int)[(k : Int).toNat]? = _
  rw [Int.toNat_natCast, List.getElem?_map, List.getElem?_eq_getElem h]
  rfl
/-- the products of two rows -/
def prods : List Int → List Int → List Int
  | a :: as, b :: bs => (a * b) :: prods as bs
  | _, _ => []
theorem prods_sum : ∀ a b : List Int, (prods a b).sum = dot a b
  | [], _ => by simp [prods, dot]
  | _ :: _, [] => by simp [prods, dot]
  | a :: as, b :: bs => by
    show (a * b :: prods as bs).sum = a * b + dot as bs
    rw [List.sum_cons, prods_sum as bs]
end FE

namespace FE
open PySem PySem.Spec PyProof.Rows L2
/-! a list that is never changed is shared as soon as it has a name -/
def sAsgF (i : Nat) (oa : Env → OE) : Env → OS := fun env => (oa env).bindS fun r e1 => if noIo e1[i]? = true then .nx (e1.set i (.sh r.fz)) else .bad
section
variable {X : Cx} {Z : Zd} {oa : Env → OE} {st : Stmt} {i : Nat}
theorem set_set {α : Type} {l : List α} {x y : α} : ∀ {i : Nat}, (l.set i x).set i y = l.set i y := by
  intro i
  rw [List.set_set]
theorem n_frz (h : PS X st (tS Z (sAsg i oa))) : PS X st (tS Z (sAsgF i oa)) := by
  refine PS.imp h fun Dn σ H ⟨F, env, g, h⟩ => ⟨F, env, g, ?_⟩
  unfold sAsgF at h
  unfold sAsg
  cases e : oa env with
  | bad => rw [e] at h; exact h
  | exc x e1 => rw [e] at h; exact h
  | ok r e1 =>
    rw [e] at h
    unfold OE.bindS at h ⊢
    dsimp only at h ⊢
    by_cases hn : noIo e1[i]? = true
    · rw [if_pos hn] at h ⊢
      cases r with
      | sh d => exact h
      | ow ds =>
        intro σ' H' F' g' x
        by_cases hi : i < e1.length
        · have ge : (e1.set i (R.ow ds).sv)[i]? = some (.ow ds) := by
            rw [List.getElem?_set_self hi]
            rfl
          obtain ⟨a, vs, h1, h2, h3, h4⟩ := g'.frzAt ge
          refine h σ' H' _ ?_ (x.trans h3)
          rw [set_set] at h4
          exact h4
        · refine h σ' H' F' ?_ x
          rw [List.set_eq_of_length_le (by omega)] at g' ⊢
          exact g'
    · rw [if_neg hn] at h
      exact h.elim
end
def asfB (i : Nat) (r : R) (e : FE.Env) : Bool → OS
  | true => .nx (e.set i (.sh r.fz))
  | false => .bad
def asfK (i : Nat) (r : R) (e : FE.Env) : OS := asfB i r e (noIo e[i]?)
theorem e_asf (i : Nat) (oa : FE.Env → OE) (env : FE.Env) : sAsgF i oa env = (oa env).bindS (asfK i) := by
  unfold sAsgF
  congr 1
  funext r e
  unfold asfK asfB
  cases noIo e[i]? <;> rfl
theorem e_asfK (i : Nat) (r : R) (e : FE.Env) : asfK i r e = asfB i r e (noIo e[i]?) := (rfl)
theorem e_asfB (i : Nat) (r : R) (e : FE.Env) : asfB i r e true = .nx (e.set i (.sh r.fz)) := (rfl)
end FE

namespace FE
open PySem PySem.Spec PyProof.Rows L2
/-! ### comprehensions over items that are images -/
theorem lcL_of {α : Type} {f : D → FE.Env → Option FE.Env} {ot : FE.Env → OT} {oe : FE.Env → OE} {ws : List Nat} (env : FE.Env) (g h : α → D) : ∀ (xs : List α) (acc : List D), acc.length + xs.length ≤ 1000000 →
    (∀ x ∈ xs, ∃ e1 e2 e3 r, f (g x) env = some e1 ∧ ot e1 = .ok true e2 ∧ oe e2 = .ok r e3 ∧ r.fz = h x ∧ (ws.all fun v => noIo e3[v]?) = true ∧ wipeE e3 ws = env) → lcL f ot oe ws (xs.map g) env acc = some (acc ++ xs.map h, env)
  | [], acc, _, _ => by
    show lcL f ot oe ws [] env acc = _
    rw [lcL, List.map_nil, List.append_nil]
  | x :: xs, acc, hl, hh => by
    obtain ⟨e1, e2, e3, r, h1, h2, h3, h4, h5, h6⟩ := hh x List.mem_cons_self
    rw [List.length_cons] at hl
    have ih := lcL_of env g h xs (acc ++ [h x]) (by rw [List.length_append, List.length_singleton]; omega) fun y hy => hh y (List.mem_cons_of_mem _ hy)
    show lcL f ot oe ws (g x :: xs.map g) env acc = _
    rw [lcL, h1]
    dsimp only
    rw [h2]
    dsimp only
    rw [h3]
    dsimp only
    rw [if_pos ⟨h5, by omega⟩, h6, h4, ih, List.append_assoc]
    rfl
/-- .. with a test -/
theorem lcL_if {α : Type} {f : D → FE.Env → Option FE.Env} {ot : FE.Env → OT} {oe : FE.Env → OE} {ws : List Nat} (env : FE.Env) (g h : α → D) (p : α → Bool) : ∀ (xs : List α) (acc : List D), acc.length + xs.length ≤ 1000000 →
    (∀ x ∈ xs, ∃ e1 e2, f (g x) env = some e1 ∧ ot e1 = .ok (p x) e2 ∧ (p x = true → ∃ e3 r, oe e2 = .ok r e3 ∧ r.fz = h x ∧ (ws.all fun v => noIo e3[v]?) = true ∧ wipeE e3 ws = env) ∧ (p x = false → (ws.all fun v => noIo e2[v]?) = true ∧ wipeE e2 ws = env)) →
    lcL f ot oe ws (xs.map g) env acc = some (acc ++ (xs.filter p).map h, env)
  | [], acc, _, _ => by
    show lcL f ot oe ws [] env acc = _
    rw [lcL, List.filter_nil, List.map_nil, List.append_nil]
  | x :: xs, acc, hl, hh => by
    obtain ⟨e1, e2, h1, h2, h3, h4⟩ := hh x List.mem_cons_self
    rw [List.length_cons] at hl
    show lcL f ot oe ws (g x :: xs.map g) env acc = _
    rw [lcL, h1]
    dsimp only
    cases q : p x with
    | true =>
      obtain ⟨e3, r, k1, k2, k3, k4⟩ := h3 q
      have ih := lcL_if env g h p xs (acc ++ [h x]) (by rw [List.length_append, List.length_singleton]; omega) fun y hy => hh y (List.mem_cons_of_mem _ hy)
      rw [h2, q]
      dsimp only
      rw [k1]
      dsimp only
      rw [if_pos ⟨k3, by omega⟩, k4, k2, ih, List.append_assoc, List.filter_cons_of_pos q]
      rfl
    | false =>
      obtain ⟨k1, k2⟩ := h4 q
      have ih := lcL_if env g h p xs acc (by omega) fun y hy => hh y (List.mem_cons_of_mem _ hy)
      rw [h2, q]
      dsimp only
      rw [if_pos k1, k2, ih, List.filter_cons_of_neg (by rw [q]; decide)]
theorem A2.to {α : Type} {Q : D → D → Prop} (mk : α → D) {P : α → Prop} (h : ∀ d e, Q d e → ∃ a, e = mk a ∧ P a) : ∀ {ds es : List D}, A2 Q ds es → ∃ as : List α, es = as.map mk ∧ as.length = ds.length ∧ ∀ a ∈ as, P a
  | _, _, .nil => ⟨[], rfl, rfl, fun a ha => by cases ha⟩
  | _, _, .cons p r => by
    obtain ⟨a, rfl, ha⟩ := h _ _ p
    obtain ⟨as, rfl, hl, hs⟩ := A2.to mk h r
    exact ⟨a :: as, rfl, by rw [List.length_cons, hl, List.length_cons], fun b hb => by
      rcases List.mem_cons.mp hb with rfl | hb
      · exact ha
      · exact hs b hb⟩
theorem all_true {rs : List D} {ds : List D} (h : A2 (fun _ r => r = .bl true) ds rs) : bolF (fun bs => bs.all id) [.lst rs] = some (.sh (.bl true)) := by
  have hb : bolsD rs = some (rs.map fun _ => true) := by
    induction h with
    | nil => rfl
    | cons h _ ih =>
      subst h
      simp only [bolsD, ih, List.map_cons, Option.map_some]
  unfold bolF
  dsimp only
  rw [hb]
  show some (R.sh (D.bl ((rs.map fun _ => true).all id))) = _
  congr 3
  simp
theorem rng_mem {n : Nat} {d : D} (h : d ∈ rngD 0 n) : ∃ j : Nat, j < n ∧ d = .int (j : Int) := by
  obtain ⟨i, hi⟩ := List.getElem?_of_mem h
  have hlt := (List.getElem?_eq_some_iff.mp hi).1
  rw [rng_len] at hlt
  refine ⟨i, hlt, ?_⟩
  rw [rng_get hi, Int.zero_add]
theorem rng_map (n : Nat) : rngD 0 n = (List.range n).map fun k : Nat => D.int (k : Int) := by
  unfold rngD
  congr 1
  funext k
  rw [Int.zero_add]
theorem ints_inj : ∀ {xs ys : List Int}, intsL xs = intsL ys → xs = ys
  | [], [], _ => rfl
  | [], _ :: _, e => by cases e
  | _ :: _, [], e => by cases e
  | x :: xs, y :: ys, e => by
    have h1 := (List.cons.inj e).1
    have h2 := (List.cons.inj e).2
    rw [D.int.inj h1, ints_inj h2]
theorem repr_int {i : Int} (h1 : -(10 ^ 300) ≤ i) (h2 : i ≤ 10 ^ 300) : ∃ S, reprF [.int i] = some (.sh (.str S)) := ⟨_, repr_ok (showInt h1 h2) (by omega) (by omega)⟩
theorem e_lstF_l (ds : List D) : lstF [.lst ds] = some (.ow ds) := (rfl)
theorem e_lstF_t (ds : List D) : lstF [.tup ds] = some (.ow ds) := (rfl)
theorem rng_succ (k : Nat) (m : Nat) : rngD (k : Int) (m + 1) = .int (k : Int) :: rngD ((k + 1 : Nat) : Int) m := by
  unfold rngD
  rw [List.range_succ_eq_map, List.map_cons, List.map_map]
  have h1 : (k : Int) + ((0 : Nat) : Int) = (k : Int) := by omega
  have h2 : ∀ j : Nat, (k : Int) + ((j + 1 : Nat) : Int) = ((k + 1 : Nat) : Int) + (j : Int) := fun j => by omega
  rw [h1]
  congr 1
  apply List.map_congr_left
  intro j _
  show D.int ((k : Int) + ((j + 1 : Nat) : Int)) = D.int (((k + 1 : Nat) : Int) + (j : Int))
  rw [h2]
end FE

namespace countfold_k09_what_divides_coefs
open PySem PySem.Spec PyProof.Rows L2 FE
abbrev Lw : PySem.W.OpenLaw := PySem.Challenge.rw_countfold_k09_what_divides_coefs
def topS (i : Nat) : Stmt := Lw.prog.main.body.getD i (.Pass ⟨0, 0, 0, 0⟩)
def dd (x : PySem.Str) (i : Nat) : He.DefD := ⟨(x, none), x, x, defArgs (topS i), defBody (topS i), defScope (topS i), [], []⟩
def ddk (x : PySem.Str) (i : Nat) (kd : List (PySem.Str × He.Dv)) : He.DefD := ⟨(x, none), x, x, defArgs (topS i), defBody (topS i), defScope (topS i), [], kd⟩
def fn : List He.DefD := [dd "added" 2, dd "divisor_of" 3, dd "_law_pool" 5, dd "_law_take" 6, dd "_law_folded" 7, dd "_law_great" 8, dd "_law_number" 9, dd "_law_common" 10, dd "_law_factor" 11, dd "_law_right" 12, dd "law" 13]
def fa : List He.Fa := [.glo "added", .glo "divisor_of", .glo "_law_pool", .glo "_law_take", .glo "_law_folded", .glo "_law_great", .glo "_law_number", .glo "_law_common", .glo "_law_factor", .glo "_law_right", .glo "law", .free "zip", .free "tuple", .free "len", .free "max", .free "min", .free "range", .free "sum", .free "abs", .free "reversed", .free "repr", .free "all"]
abbrev fx_zip : Nat := 11
abbrev fx_tuple : Nat := 12
abbrev fx_len : Nat := 13
abbrev fx_max : Nat := 14
abbrev fx_min : Nat := 15
abbrev fx_range : Nat := 16
abbrev fx_sum : Nat := 17
abbrev fx_abs : Nat := 18
abbrev fx_reversed : Nat := 19
abbrev fx_repr : Nat := 20
abbrev fx_all : Nat := 21
def ex (K : PySem.W.Frag) : Bool := He.eqO (PySem.W.nsIn K mainGlobals "gcd") (some (some (.builtin "math.gcd")))
abbrev Tx := Tp fa fn ex
def C0 : PySem.Str → Value → Prop := fun _ _ => False
variable {P : Program} {w : World} {K : PySem.W.Frag} {mg : PySem.Str → Option Value} {base h : Heap}
theorem m_gcd (T : Tx w K mg h) : mg "gcd" = some (.builtin "math.gcd") := PySem.W.mg_of T.kx T.g (He.eqO_ok T.c.more)
/-! added -/
theorem sc_added : FnScope ["rows", "weights", "width", "total", "row", "weight", "have", "more"] ["rows", "weights", "width"] (defScope (topS 2)) := ⟨rfl, rfl, rfl, by decide +kernel, rfl, by decide +kernel, by decide +kernel⟩
def F_added : FE.Env → OS := (sSeq (sAsg 3 (oOp2 mulF' (oLst (oCons (oC (.int 0)) oNil)) (oOp2 addF (oVar 2) (oC (.int 1))))) (sSeq (sFor (iZq (oCons (oVar 0) (oCons (oVar 1) oNil))) (gTupF 2 (gConsF (gVar 4) (gConsF (gVar 5) gNilF))) (sIf (oTru (oOp2 neF (oVar 5) (oC (.int 0)))) (sAsg 3 (oLc (iZq (oCons (oVar 3) (oCons (oVar 4) oNil))) (gTupF 2 (gConsF (gVar 6) (gConsF (gVar 7) gNilF))) oYes (oOp2 addF (oVar 6) (oOp2 mulF' (oVar 5) (oVar 7))) [6, 7])) sPass)) (sRet (oCallB tupF (oCons (oVar 3) oNil)))))
def f_added : List D → OC := runF 8 none F_added
theorem ok_added (T : Tx w K mg h) {fd : FuncData} (F : FunD K "added" "added" (defArgs (topS 2)) (defBody (topS 2)) (defScope (topS 2)) [] [] (He.ga K "added") fd) : FnG P w K mg base 1 (He.ga K "added") fd ["rows", "weights", "width"] (spF ⟨K, mg⟩ C0 3 none f_added) := by
  refine fnF F sc_added none (fun cdv A outer s H E F0 as hr hd => ?_)
  exact (n_seq (n_asg 3 sc_added.nd (n_bin op_mulU s_mul (n_lst (n_cons n_int n_nil)) (n_bin op_addU s_add (n_var 2) n_int)))
    (n_seq (n_for (ws := [4, 5]) hd.2 rfl (n_zipq (T.free fx_zip) rfl (n_cons (n_var 0) (n_cons (n_var 1) n_nil))) (pg_tup rfl (pgs_cons (pg_name (i := 4) sc_added.nd rfl (by first | exact .inl rfl | exact .inr rfl)) (pgs_cons (pg_name (i := 5) sc_added.nd rfl (by first | exact .inl rfl | exact .inr rfl)) pgs_nil))) (tg_tup (tgs_cons (tg_var 4) (tgs_cons (tg_var 5) tgs_nil))) (n_last (n_ifS (n_tcmp (op_neU (room_64 hr)) s_ne (n_var 5) n_int) (n_last (n_asgComp 3 [("have", 6), ("more", 7)] sc_added.nd (n_zipq (T.free fx_zip) rfl (n_cons (n_var 3) (n_cons (n_var 4) n_nil))) (tg_tup (tgs_cons (tg_var 6) (tgs_cons (tg_var 7) tgs_nil))) (fun s H C cl fp => (pg_tup rfl (pgs_cons (pg_name (i := 6) sc_added.nd rfl (by first | exact .inl rfl | exact .inr rfl)) (pgs_cons (pg_name (i := 7) sc_added.nd rfl (by first | exact .inl rfl | exact .inr rfl)) pgs_nil)))) (fun F0 H0 as s H C cl fp => n_yes) (fun F0 H0 as s H C cl fp => (n_bin op_addU s_add (n_var 6) (n_bin op_mulU s_mul (n_var 5) (n_var 7)))))) n_end)))
    (n_last (n_ret (n_ct call_tupleN s_tup (T.free fx_tuple) (n_cons (n_var 3) n_nil))))))
theorem calk_added (T : Tx w K mg h) : Cal P w K mg base 1 "added" 2 ["width"] (fun vs zs => vs ++ zs) (spF ⟨K, mg⟩ C0 3 none f_added) := by
  obtain ⟨fd, F⟩ := T.d.def_ 0 (d := dd "added" 2) rfl
  exact cal_kw (ps := ["rows", "weights", "width"]) 2 ["width"] T.kx T.g (T.fact 0) F (ok_added T F) (fun _ _ _ _ _ _ us ws hl hw => match us, hl, ws, hw with | [_, _], _, [_], _ => rfl)
/-! divisor_of -/
theorem sc_divisor_of : FnScope ["row", "divisor", "coef"] ["row"] (defScope (topS 3)) := ⟨rfl, rfl, rfl, by decide +kernel, rfl, by decide +kernel, by decide +kernel⟩
def F_divisor_of : FE.Env → OS := (sSeq (sAsg 1 (oC (.int 0))) (sSeq (sFor (iVal (oSl sliceF (oVar 0) (oPI (oC (.int 1))) (oC .non))) (gVar 2) (sAsg 1 (oCallB gcdF (oCons (oVar 1) (oCons (oVar 2) oNil))))) (sRet (oMv 1))))
def f_divisor_of : List D → OC := runF 3 none F_divisor_of
theorem ok_divisor_of (T : Tx w K mg h) {fd : FuncData} (F : FunD K "divisor_of" "divisor_of" (defArgs (topS 3)) (defBody (topS 3)) (defScope (topS 3)) [] [] (He.ga K "divisor_of") fd) : FnG P w K mg base 1 (He.ga K "divisor_of") fd ["row"] (spF ⟨K, mg⟩ C0 1 none f_divisor_of) := by
  refine fnF F sc_divisor_of none (fun cdv A outer s H E F0 as hr hd => ?_)
  exact (n_seq (n_asg 1 sc_divisor_of.nd n_int)
    (n_seq (n_for (ws := [2]) hd.2 rfl (n_iter (n_slice sl_U s_slice (n_var 0) (n_psome n_int) n_pnone) rfl) (pg_name (i := 2) sc_divisor_of.nd rfl (by first | exact .inl rfl | exact .inr rfl)) (tg_var 2) (n_last (n_asg 1 sc_divisor_of.nd (n_cg cr_gcd s_gcd (m_gcd T) (n_cons (n_var 1) (n_cons (n_var 2) n_nil))))))
    (n_last (n_ret (n_mv 1)))))
theorem cal_divisor_of (T : Tx w K mg h) : Cal P w K mg base 1 "divisor_of" 1 [] (fun vs _ => vs) (spF ⟨K, mg⟩ C0 1 none f_divisor_of) := by
  obtain ⟨fd, F⟩ := T.d.def_ 1 (d := dd "divisor_of" 3) rfl
  exact cal_of (ps := ["row"]) T.kx T.g (T.fact 1) F (ok_divisor_of T F) (fun _ _ _ _ _ _ us hl => match us, hl with | [_], _ => rfl)
/-! _law_pool -/
theorem sc__law_pool : FnScope ["_law_script", "_law_k", "_law_cell"] ["_law_script", "_law_k"] (defScope (topS 5)) := ⟨rfl, rfl, rfl, by decide +kernel, rfl, by decide +kernel, by decide +kernel⟩
def F__law_pool : FE.Env → OS := (sSeq (sAsg 2 (oC (.int 0))) (sSeq (sIf (oTru (oOp2 ltF (oVar 1) (oLenV 0))) (sAsg 2 (oIxV 0 (oVar 1))) sPass) (sRet (oLst (oCons (oCallB maxF (oCons (oC (.int 0)) (oCons (oOp2 (iI fun i j => i - j) (oVar 2) (oOp2 powF (oC (.int 10)) (oC (.int 18)))) oNil))) (oCons (oOp2 modF (oVar 2) (oC (.int 1000000007))) (oCons (oOp2 addF (oOp2 mulF' (oC (.int 7919)) (oVar 1)) (oC (.int 1))) oNil)))))))
def f__law_pool : List D → OC := runF 3 none F__law_pool
theorem ok__law_pool (T : Tx w K mg h) {fd : FuncData} (F : FunD K "_law_pool" "_law_pool" (defArgs (topS 5)) (defBody (topS 5)) (defScope (topS 5)) [] [] (He.ga K "_law_pool") fd) : FnG P w K mg base 1 (He.ga K "_law_pool") fd ["_law_script", "_law_k"] (spF ⟨K, mg⟩ C0 2 none f__law_pool) := by
  refine fnF F sc__law_pool none (fun cdv A outer s H E F0 as hr hd => ?_)
  exact (n_seq (n_asg 2 sc__law_pool.nd n_int)
    (n_seq (n_ifS (n_tcmp op_ltU s_ord (n_var 1) (n_lenV 0 (T.free fx_len) rfl)) (n_last (n_asg 2 sc__law_pool.nd (n_ixV 0 (n_var 1) rfl))) n_end)
    (n_last (n_ret (n_lst (n_cons (n_cb (call_maxU rfl) s_max (T.free fx_max) (n_cons n_int (n_cons (n_bin op_sub s_iI (n_var 2) (n_bin op_pow s_pow n_int n_int)) n_nil))) (n_cons (n_bin op_mod s_mod (n_var 2) n_int) (n_cons (n_bin op_addU s_add (n_bin op_mulU s_mul n_int (n_var 1)) n_int) n_nil))))))))
theorem cal__law_pool (T : Tx w K mg h) : Cal P w K mg base 1 "_law_pool" 2 [] (fun vs _ => vs) (spF ⟨K, mg⟩ C0 2 none f__law_pool) := by
  obtain ⟨fd, F⟩ := T.d.def_ 2 (d := dd "_law_pool" 5) rfl
  exact cal_of (ps := ["_law_script", "_law_k"]) T.kx T.g (T.fact 2) F (ok__law_pool T F) (fun _ _ _ _ _ _ us hl => match us, hl with | [_, _], _ => rfl)
/-! _law_take -/
theorem sc__law_take : FnScope ["_law_pool_here", "_law_many", "_law_one", "_law_two", "_law_digit"] ["_law_pool_here", "_law_many"] (defScope (topS 6)) := ⟨rfl, rfl, rfl, by decide +kernel, rfl, by decide +kernel, by decide +kernel⟩
def F__law_take : FE.Env → OS := (sSeq (sIf (oTru (oOp2 gtF (oIxV 0 (oC (.int 0))) (oC (.int 0)))) (sSeq (sAsg 4 (oOp2 modF (oIxV 0 (oC (.int 0))) (oVar 1))) (sSeq (sSetI 0 (oC (.int 0)) (oOp2 fdivF (oIxV 0 (oC (.int 0))) (oVar 1))) (sRet (oMv 4)))) sPass) (sSeq (sSetI 0 (oC (.int 2)) (oOp2 addF (oIxV 0 (oC (.int 2))) (oC (.int 1)))) (sSeq (sAsg 2 (oOp2 modF (oOp2 addF (oOp2 addF (oOp2 mulF' (oIxV 0 (oC (.int 1))) (oC (.int 48271))) (oOp2 mulF' (oC (.int 104729)) (oIxV 0 (oC (.int 2))))) (oC (.int 101))) (oC (.int 2147483629)))) (sSeq (sAsg 2 (oOp2 modF (oOp2 powF (oVar 2) (oC (.int 5))) (oC (.int 2147483587)))) (sSeq (sAsg 3 (oOp2 modF (oOp2 powF (oOp2 addF (oOp2 addF (oVar 2) (oOp2 mulF' (oOp2 mulF' (oC (.int 69621)) (oIxV 0 (oC (.int 2)))) (oIxV 0 (oC (.int 2))))) (oOp2 modF (oIxV 0 (oC (.int 1))) (oC (.int 65537)))) (oC (.int 3))) (oC (.int 2147483563)))) (sRet (oOp2 modF (oOp2 fdivF (oOp2 modF (oOp2 mulF' (oVar 3) (oC (.int 40692))) (oC (.int 2147483549))) (oC (.int 64))) (oVar 1))))))))
def f__law_take : List D → OC := runF 5 (some 0) F__law_take
theorem ok__law_take (T : Tx w K mg h) {fd : FuncData} (F : FunD K "_law_take" "_law_take" (defArgs (topS 6)) (defBody (topS 6)) (defScope (topS 6)) [] [] (He.ga K "_law_take") fd) : FnG P w K mg base 1 (He.ga K "_law_take") fd ["_law_pool_here", "_law_many"] (spF ⟨K, mg⟩ C0 2 (some 0) f__law_take) := by
  refine fnF F sc__law_take (some 0) (fun cdv A outer s H E F0 as hr hd => ?_)
  exact (n_seq (n_ifS (n_tcmp op_gtU s_ord (n_ixV 0 n_int rfl) n_int) (n_seq (n_asg 4 sc__law_take.nd (n_bin op_mod s_mod (n_ixV 0 n_int rfl) (n_var 1)))
    (n_seq (n_setI 0 (n_bin op_fdivW s_fdiv (n_ixV 0 n_int rfl) (n_var 1)) n_int)
    (n_last (n_ret (n_mv 4))))) n_end)
    (n_seq (n_setI 0 (n_bin op_addU s_add (n_ixV 0 n_int rfl) n_int) n_int)
    (n_seq (n_asg 2 sc__law_take.nd (n_bin op_mod s_mod (n_bin op_addU s_add (n_bin op_addU s_add (n_bin op_mulU s_mul (n_ixV 0 n_int rfl) n_int) (n_bin op_mulU s_mul n_int (n_ixV 0 n_int rfl))) n_int) n_int))
    (n_seq (n_asg 2 sc__law_take.nd (n_bin op_mod s_mod (n_bin op_pow s_pow (n_var 2) n_int) n_int))
    (n_seq (n_asg 3 sc__law_take.nd (n_bin op_mod s_mod (n_bin op_pow s_pow (n_bin op_addU s_add (n_bin op_addU s_add (n_var 2) (n_bin op_mulU s_mul (n_bin op_mulU s_mul n_int (n_ixV 0 n_int rfl)) (n_ixV 0 n_int rfl))) (n_bin op_mod s_mod (n_ixV 0 n_int rfl) n_int)) n_int) n_int))
    (n_last (n_ret (n_bin op_mod s_mod (n_bin op_fdivW s_fdiv (n_bin op_mod s_mod (n_bin op_mulU s_mul (n_var 3) n_int) n_int) n_int) (n_var 1)))))))))
theorem cal__law_take (T : Tx w K mg h) : Cal P w K mg base 1 "_law_take" 2 [] (fun vs _ => vs) (spF ⟨K, mg⟩ C0 2 (some 0) f__law_take) := by
  obtain ⟨fd, F⟩ := T.d.def_ 3 (d := dd "_law_take" 6) rfl
  exact cal_of (ps := ["_law_pool_here", "_law_many"]) T.kx T.g (T.fact 3) F (ok__law_take T F) (fun _ _ _ _ _ _ us hl => match us, hl with | [_, _], _ => rfl)
/-! _law_folded -/
theorem sc__law_folded : FnScope ["_law_script", "_law_top", "_law_k"] ["_law_script", "_law_top"] (defScope (topS 7)) := ⟨rfl, rfl, rfl, by decide +kernel, rfl, by decide +kernel, by decide +kernel⟩
def F__law_folded : FE.Env → OS := (sRet (oLc (iRg1 (oCons (oCallB maxF (oCons (oC (.int 1)) (oCons (oCallB minF (oCons (oVar 1) (oCons (oLenV 0) oNil))) oNil))) oNil)) (gVar 2) oYes (oCallB sumF (oCons (oSl3 (oVar 0) (oPI (oVar 2)) (oPI (oC (.int 63))) (oPI (oVar 1))) oNil)) [2]))
def f__law_folded : List D → OC := runF 3 none F__law_folded
theorem ok__law_folded (T : Tx w K mg h) {fd : FuncData} (F : FunD K "_law_folded" "_law_folded" (defArgs (topS 7)) (defBody (topS 7)) (defScope (topS 7)) [] [] (He.ga K "_law_folded") fd) : FnG P w K mg base 1 (He.ga K "_law_folded") fd ["_law_script", "_law_top"] (spF ⟨K, mg⟩ C0 2 none f__law_folded) := by
  refine fnF F sc__law_folded none (fun cdv A outer s H E F0 as hr hd => ?_)
  exact (n_last (n_ret (n_comp [("_law_k", 2)] sc__law_folded.nd (n_rng1 (T.free fx_range) (n_cons (n_cb (call_maxU rfl) s_max (T.free fx_max) (n_cons n_int (n_cons (n_cb (call_minU rfl) s_min (T.free fx_min) (n_cons (n_var 1) (n_cons (n_lenV 0 (T.free fx_len) rfl) n_nil))) n_nil))) n_nil)) (tg_var 2) (fun s H C cl fp => (pg_name (i := 2) sc__law_folded.nd rfl (by first | exact .inl rfl | exact .inr rfl))) (fun F0 H0 as s H C cl fp => n_yes) (fun F0 H0 as s H C cl fp => (n_cb (cr_sum rfl) s_sum (T.free fx_sum) (n_cons (n_slice3 rfl (n_var 0) (n_psome (n_var 2)) (n_psome n_int) (n_psome (n_var 1))) n_nil))))))
theorem cal__law_folded (T : Tx w K mg h) : Cal P w K mg base 1 "_law_folded" 2 [] (fun vs _ => vs) (spF ⟨K, mg⟩ C0 2 none f__law_folded) := by
  obtain ⟨fd, F⟩ := T.d.def_ 4 (d := dd "_law_folded" 7) rfl
  exact cal_of (ps := ["_law_script", "_law_top"]) T.kx T.g (T.fact 4) F (ok__law_folded T F) (fun _ _ _ _ _ _ us hl => match us, hl with | [_, _], _ => rfl)
/-! _law_great -/
theorem sc__law_great : FnScope ["_law_pool_here", "_law_found", "_law_turn"] ["_law_pool_here"] (defScope (topS 8)) := ⟨rfl, rfl, rfl, by decide +kernel, rfl, by decide +kernel, by decide +kernel⟩
def F__law_great : FE.Env → OS := (sSeq (sAsg 1 (oC (.int 0))) (sSeq (sFor (iRg1 (oCons (oC (.int 5)) oNil)) (gVar 2) (sAsg 1 (oOp2 addF (oOp2 mulF' (oVar 1) (oOp2 powF (oC (.int 10)) (oC (.int 6)))) (oCallP f__law_take 2 0 (oGs 0 (oGv (oOp2 powF (oC (.int 10)) (oC (.int 6))) oGnil)))))) (sRet (oMv 1))))
def f__law_great : List D → OC := runF 3 (some 0) F__law_great
theorem ok__law_great (T : Tx w K mg h) {fd : FuncData} (F : FunD K "_law_great" "_law_great" (defArgs (topS 8)) (defBody (topS 8)) (defScope (topS 8)) [] [] (He.ga K "_law_great") fd) : FnG P w K mg base 2 (He.ga K "_law_great") fd ["_law_pool_here"] (spF ⟨K, mg⟩ C0 1 (some 0) f__law_great) := by
  refine fnF F sc__law_great (some 0) (fun cdv A outer s H E F0 as hr hd => ?_)
  exact (n_seq (n_asg 1 sc__law_great.nd n_int)
    (n_seq (n_for (ws := [2]) hd.2 rfl (n_rng1 (T.free fx_range) (n_cons n_int n_nil)) (pg_name (i := 2) sc__law_great.nd rfl (by first | exact .inl rfl | exact .inr rfl)) (tg_var 2) (n_last (n_asg 1 sc__law_great.nd (n_bin op_addU s_add (n_bin op_mulU s_mul (n_var 1) (n_bin op_pow s_pow n_int n_int)) (n_callP (k := 1) ((cal__law_take T).mono (by decide)) hr hd.1 (n_gs 0 (n_gv (n_bin op_pow s_pow n_int n_int) n_gnil)))))))
    (n_last (n_ret (n_mv 1)))))
theorem cal__law_great (T : Tx w K mg h) : Cal P w K mg base 2 "_law_great" 1 [] (fun vs _ => vs) (spF ⟨K, mg⟩ C0 1 (some 0) f__law_great) := by
  obtain ⟨fd, F⟩ := T.d.def_ 5 (d := dd "_law_great" 8) rfl
  exact cal_of (ps := ["_law_pool_here"]) T.kx T.g (T.fact 5) F (ok__law_great T F) (fun _ _ _ _ _ _ us hl => match us, hl with | [_], _ => rfl)
/-! _law_number -/
theorem sc__law_number : FnScope ["_law_pool_here", "_law_way", "_law_found"] ["_law_pool_here"] (defScope (topS 9)) := ⟨rfl, rfl, rfl, by decide +kernel, rfl, by decide +kernel, by decide +kernel⟩
def F__law_number : FE.Env → OS := (sSeq (sAsg 1 (oCallP f__law_take 2 0 (oGs 0 (oGv (oC (.int 4)) oGnil)))) (sSeq (sIf (oTru (oOp2 eqF (oVar 1) (oC (.int 0)))) (sRet (oC (.int 0))) sPass) (sSeq (sAsg 2 (oOp2 ixF (oLst (oCons (oOp2 addF (oC (.int 1)) (oCallP f__law_take 2 0 (oGs 0 (oGv (oC (.int 9)) oGnil)))) (oCons (oCallP f__law_take 2 0 (oGs 0 (oGv (oC (.int 1000)) oGnil))) (oCons (oCallP f__law_great 1 0 (oGs 0 oGnil)) oNil)))) (oOp2 (iI fun i j => i - j) (oVar 1) (oC (.int 1))))) (sRet (oOp2 mulF' (oVar 2) (oOp2 ixF (oLst (oCons (oC (.int 1)) (oCons (oUn negF (oC (.int 1))) oNil))) (oCallP f__law_take 2 0 (oGs 0 (oGv (oC (.int 2)) oGnil)))))))))
def f__law_number : List D → OC := runF 3 (some 0) F__law_number
theorem ok__law_number (T : Tx w K mg h) {fd : FuncData} (F : FunD K "_law_number" "_law_number" (defArgs (topS 9)) (defBody (topS 9)) (defScope (topS 9)) [] [] (He.ga K "_law_number") fd) : FnG P w K mg base 3 (He.ga K "_law_number") fd ["_law_pool_here"] (spF ⟨K, mg⟩ C0 1 (some 0) f__law_number) := by
  refine fnF F sc__law_number (some 0) (fun cdv A outer s H E F0 as hr hd => ?_)
  exact (n_seq (n_asg 1 sc__law_number.nd (n_callP (k := 2) ((cal__law_take T).mono (by decide)) hr hd.1 (n_gs 0 (n_gv n_int n_gnil))))
    (n_seq (n_ifS (n_tcmp (op_eqU (room_64 hr)) s_eq (n_var 1) n_int) (n_last (n_ret n_int)) n_end)
    (n_seq (n_asg 2 sc__law_number.nd (n_ix ix_seq s_ix (n_lst (n_cons (n_bin op_addU s_add n_int (n_callP (k := 2) ((cal__law_take T).mono (by decide)) hr hd.1 (n_gs 0 (n_gv n_int n_gnil)))) (n_cons (n_callP (k := 2) ((cal__law_take T).mono (by decide)) hr hd.1 (n_gs 0 (n_gv n_int n_gnil))) (n_cons (n_callP (k := 2) ((cal__law_great T).mono (by decide)) hr hd.1 (n_gs 0 n_gnil)) n_nil)))) (n_bin op_sub s_iI (n_var 1) n_int)))
    (n_last (n_ret (n_bin op_mulU s_mul (n_var 2) (n_ix ix_seq s_ix (n_lst (n_cons n_int (n_cons (n_un un_neg s_neg n_int) n_nil))) (n_callP (k := 2) ((cal__law_take T).mono (by decide)) hr hd.1 (n_gs 0 (n_gv n_int n_gnil))))))))))
theorem cal__law_number (T : Tx w K mg h) : Cal P w K mg base 3 "_law_number" 1 [] (fun vs _ => vs) (spF ⟨K, mg⟩ C0 1 (some 0) f__law_number) := by
  obtain ⟨fd, F⟩ := T.d.def_ 6 (d := dd "_law_number" 9) rfl
  exact cal_of (ps := ["_law_pool_here"]) T.kx T.g (T.fact 6) F (ok__law_number T F) (fun _ _ _ _ _ _ us hl => match us, hl with | [_], _ => rfl)
/-! _law_common -/
theorem sc__law_common : FnScope ["_law_one", "_law_other"] ["_law_one", "_law_other"] (defScope (topS 10)) := ⟨rfl, rfl, rfl, by decide +kernel, rfl, by decide +kernel, by decide +kernel⟩
def F__law_common : FE.Env → OS := (sSeq (sWhile (2 ^ 4000) (oTru (oOp2 gtF (oVar 1) (oC (.int 0)))) (sPar 0 1 (oCons (oVar 1) (oCons (oOp2 modF (oVar 0) (oVar 1)) oNil)))) (sRet (oMv 0)))
def f__law_common : List D → OC := runF 2 none F__law_common
theorem ok__law_common (T : Tx w K mg h) {fd : FuncData} (F : FunD K "_law_common" "_law_common" (defArgs (topS 10)) (defBody (topS 10)) (defScope (topS 10)) [] [] (He.ga K "_law_common") fd) : FnG P w K mg base 1 (He.ga K "_law_common") fd ["_law_one", "_law_other"] (spF ⟨K, mg⟩ C0 2 none f__law_common) := by
  refine fnF F sc__law_common none (fun cdv A outer s H E F0 as hr hd => ?_)
  exact (n_seq (n_while (2 ^ 4000) hd.2 (n_tcmp op_gtU s_ord (n_var 1) n_int) (n_last (n_par 0 1 sc__law_common.nd (n_cons (n_var 1) (n_cons (n_bin op_mod s_mod (n_var 0) (n_var 1)) n_nil)) (by rfl))))
    (n_last (n_ret (n_mv 0))))
theorem cal__law_common (T : Tx w K mg h) : Cal P w K mg base 1 "_law_common" 2 [] (fun vs _ => vs) (spF ⟨K, mg⟩ C0 2 none f__law_common) := by
  obtain ⟨fd, F⟩ := T.d.def_ 7 (d := dd "_law_common" 10) rfl
  exact cal_of (ps := ["_law_one", "_law_other"]) T.kx T.g (T.fact 7) F (ok__law_common T F) (fun _ _ _ _ _ _ us hl => match us, hl with | [_, _], _ => rfl)
/-! _law_factor -/
theorem sc__law_factor : FnScope ["_law_pool_here", "_law_found"] ["_law_pool_here"] (defScope (topS 11)) := ⟨rfl, rfl, rfl, by decide +kernel, rfl, by decide +kernel, by decide +kernel⟩
def F__law_factor : FE.Env → OS := (sSeq (sAsg 1 (oOp2 ixF (oLst (oCons (oC (.int 0)) (oCons (oCallP f__law_take 2 0 (oGs 0 (oGv (oC (.int 10)) oGnil))) (oCons (oCallP f__law_take 2 0 (oGs 0 (oGv (oC (.int 1000)) oGnil))) (oCons (oOp2 fdivF (oCallP f__law_great 1 0 (oGs 0 oGnil)) (oOp2 powF (oC (.int 10)) (oC (.int 12)))) oNil))))) (oCallP f__law_take 2 0 (oGs 0 (oGv (oC (.int 4)) oGnil))))) (sRet (oOp2 mulF' (oVar 1) (oOp2 ixF (oLst (oCons (oC (.int 1)) (oCons (oUn negF (oC (.int 1))) oNil))) (oCallP f__law_take 2 0 (oGs 0 (oGv (oC (.int 2)) oGnil)))))))
def f__law_factor : List D → OC := runF 2 (some 0) F__law_factor
theorem ok__law_factor (T : Tx w K mg h) {fd : FuncData} (F : FunD K "_law_factor" "_law_factor" (defArgs (topS 11)) (defBody (topS 11)) (defScope (topS 11)) [] [] (He.ga K "_law_factor") fd) : FnG P w K mg base 3 (He.ga K "_law_factor") fd ["_law_pool_here"] (spF ⟨K, mg⟩ C0 1 (some 0) f__law_factor) := by
  refine fnF F sc__law_factor (some 0) (fun cdv A outer s H E F0 as hr hd => ?_)
  exact (n_seq (n_asg 1 sc__law_factor.nd (n_ix ix_seq s_ix (n_lst (n_cons n_int (n_cons (n_callP (k := 2) ((cal__law_take T).mono (by decide)) hr hd.1 (n_gs 0 (n_gv n_int n_gnil))) (n_cons (n_callP (k := 2) ((cal__law_take T).mono (by decide)) hr hd.1 (n_gs 0 (n_gv n_int n_gnil))) (n_cons (n_bin op_fdivW s_fdiv (n_callP (k := 2) ((cal__law_great T).mono (by decide)) hr hd.1 (n_gs 0 n_gnil)) (n_bin op_pow s_pow n_int n_int)) n_nil))))) (n_callP (k := 2) ((cal__law_take T).mono (by decide)) hr hd.1 (n_gs 0 (n_gv n_int n_gnil)))))
    (n_last (n_ret (n_bin op_mulU s_mul (n_var 1) (n_ix ix_seq s_ix (n_lst (n_cons n_int (n_cons (n_un un_neg s_neg n_int) n_nil))) (n_callP (k := 2) ((cal__law_take T).mono (by decide)) hr hd.1 (n_gs 0 (n_gv n_int n_gnil))))))))
theorem cal__law_factor (T : Tx w K mg h) : Cal P w K mg base 3 "_law_factor" 1 [] (fun vs _ => vs) (spF ⟨K, mg⟩ C0 1 (some 0) f__law_factor) := by
  obtain ⟨fd, F⟩ := T.d.def_ 8 (d := dd "_law_factor" 11) rfl
  exact cal_of (ps := ["_law_pool_here"]) T.kx T.g (T.fact 8) F (ok__law_factor T F) (fun _ _ _ _ _ _ us hl => match us, hl with | [_], _ => rfl)
/-! _law_right -/
theorem sc__law_right : FnScope ["_law_pool_here", "_law_base", "_law_coefs", "_law_constant", "_law_due", "_law_coef", "_law_twice", "_law_against", "_law_some", "_law_kept", "_law_row", "_law_times", "_law_turn"] ["_law_pool_here"] (defScope (topS 12)) := ⟨rfl, rfl, rfl, by decide +kernel, rfl, by decide +kernel, by decide +kernel⟩
def F__law_right : FE.Env → OS := (sSeq (sAsg 1 (oOp2 ixF (oLst (oCons (oC (.int 1)) (oCons (oOp2 addF (oC (.int 1)) (oCallP f__law_take 2 0 (oGs 0 (oGv (oC (.int 60)) oGnil)))) (oCons (oOp2 addF (oC (.int 1)) (oOp2 modF (oCallP f__law_great 1 0 (oGs 0 oGnil)) (oOp2 powF (oC (.int 10)) (oC (.int 12))))) oNil)))) (oCallP f__law_take 2 0 (oGs 0 (oGv (oC (.int 3)) oGnil))))) (sSeq (sAsg 2 (oLc (iRg1 (oCons (oCallP f__law_take 2 0 (oGs 0 (oGv (oOp2 ixF (oLst (oCons (oC (.int 11)) (oCons (oC (.int 21)) oNil))) (oCallP f__law_take 2 0 (oGs 0 (oGv (oC (.int 2)) oGnil)))) oGnil))) oNil)) (gVar 12) oYes (oOp2 mulF' (oVar 1) (oCallP f__law_factor 1 0 (oGs 0 oGnil))) [12])) (sSeq (sAsg 3 (oCallP f__law_number 1 0 (oGs 0 oGnil))) (sSeq (sAsg 4 (oC (.int 0))) (sSeq (sFor (iVal (oVar 2)) (gVar 5) (sAsg 4 (oCall f__law_common 2 0 (fun ds _ => ds) (oCons (oVar 4) (oCons (oCallB (intF fun i => if i < 0 then -i else i) (oCons (oVar 5) oNil)) oNil)) oNil))) (sSeq (sAsg 6 (oOp2 addF (oVar 2) (oSl sliceF (oVar 2) (oC .non) (oPI (oOp2 addF (oC (.int 1)) (oCallP f__law_take 2 0 (oGs 0 (oGv (oC (.int 3)) oGnil)))))))) (sSeq (sAsg 7 (oLc (iRv (oVar 2)) (gVar 5) oYes (oOp2 (iI fun i j => i - j) (oC (.int 0)) (oVar 5)) [5])) (sSeq (sAsg 8 (oLst (oCons (oOp2 addF (oLst (oCons (oVar 3) oNil)) (oVar 2)) (oCons (oOp2 addF (oTup (oCons (oVar 3) oNil)) (oCallB tupF (oCons (oVar 2) oNil))) (oCons (oOp2 addF (oLst (oCons (oOp2 fdivF (oVar 3) (oC (.int 7))) oNil)) (oVar 2)) oNil))))) (sSeq (sAsg 8 (oOp2 addF (oVar 8) (oLst (oCons (oOp2 addF (oLst (oCons (oC (.int 0)) oNil)) (oVar 6)) (oCons (oOp2 addF (oLst (oCons (oVar 4) oNil)) (oVar 7)) oNil))))) (sSeq (sAsg 9 (oCallB reprF (oCons (oVar 8) oNil))) (sSeq (sFor (iVal (oVar 8)) (gVar 10) (sIf (oTru (oOp2 neF (oCallB reprF (oCons (oCall f_divisor_of 1 0 (fun ds _ => ds) (oCons (oVar 10) oNil) oNil) oNil)) (oCallB reprF (oCons (oVar 4) oNil)))) (sRet (oC (.bl false))) sPass)) (sSeq (sIf (oTAnd (oTru (oOp2 gtF (oVar 4) (oC (.int 0)))) (oTru (oOp2 neF (oCallB reprF (oCons (oCall f_divisor_of 1 0 (fun ds _ => ds) (oCons (oOp2 addF (oLst (oCons (oC (.int 1)) oNil)) (oLc (iVal (oVar 2)) (gVar 5) oYes (oOp2 fdivF (oVar 5) (oVar 4)) [5])) oNil) oNil) oNil)) (oC (.str "1"))))) (sRet (oC (.bl false))) sPass) (sSeq (sIf (oTru (oOp2 neF (oCallB reprF (oCons (oCall f_divisor_of 1 0 (fun ds _ => ds) (oCons (oTup (oCons (oVar 4) oNil)) oNil) oNil) oNil)) (oC (.str "0")))) (sRet (oC (.bl false))) sPass) (sSeq (sAsg 11 (oOp2 mulF' (oCallP f__law_great 1 0 (oGs 0 oGnil)) (oOp2 ixF (oLst (oCons (oC (.int 1)) (oCons (oUn negF (oC (.int 1))) oNil))) (oCallP f__law_take 2 0 (oGs 0 (oGv (oC (.int 2)) oGnil)))))) (sSeq (sIf (oTru (oOp2 neF (oCallB reprF (oCons (oCall f_divisor_of 1 0 (fun ds _ => ds) (oCons (oCall f_added 2 1 (fun ds es => ds ++ es) (oCons (oLst (oCons (oOp2 addF (oLst (oCons (oVar 3) oNil)) (oVar 2)) oNil)) (oCons (oLst (oCons (oVar 11) oNil)) oNil)) (oCons (oLenV 2) oNil)) oNil) oNil) oNil)) (oCallB reprF (oCons (oOp2 mulF' (oVar 4) (oCallB (intF fun i => if i < 0 then -i else i) (oCons (oVar 11) oNil))) oNil)))) (sRet (oC (.bl false))) sPass) (sRet (oOp2 eqF (oCallB reprF (oCons (oVar 8) oNil)) (oVar 9))))))))))))))))))
def f__law_right : List D → OC := runF 13 (some 0) F__law_right
theorem ok__law_right (T : Tx w K mg h) {fd : FuncData} (F : FunD K "_law_right" "_law_right" (defArgs (topS 12)) (defBody (topS 12)) (defScope (topS 12)) [] [] (He.ga K "_law_right") fd) : FnG P w K mg base 4 (He.ga K "_law_right") fd ["_law_pool_here"] (spF ⟨K, mg⟩ C0 1 (some 0) f__law_right) := by
  refine fnF F sc__law_right (some 0) (fun cdv A outer s H E F0 as hr hd => ?_)
  exact (n_seq (n_asg 1 sc__law_right.nd (n_ix ix_seq s_ix (n_lst (n_cons n_int (n_cons (n_bin op_addU s_add n_int (n_callP (k := 3) ((cal__law_take T).mono (by decide)) hr hd.1 (n_gs 0 (n_gv n_int n_gnil)))) (n_cons (n_bin op_addU s_add n_int (n_bin op_mod s_mod (n_callP (k := 3) ((cal__law_great T).mono (by decide)) hr hd.1 (n_gs 0 n_gnil)) (n_bin op_pow s_pow n_int n_int))) n_nil)))) (n_callP (k := 3) ((cal__law_take T).mono (by decide)) hr hd.1 (n_gs 0 (n_gv n_int n_gnil)))))
    (n_seq (n_asgComp 2 [("_law_turn", 12)] sc__law_right.nd (n_rng1 (T.free fx_range) (n_cons (n_callP (k := 3) ((cal__law_take T).mono (by decide)) hr hd.1 (n_gs 0 (n_gv (n_ix ix_seq s_ix (n_lst (n_cons n_int (n_cons n_int n_nil))) (n_callP (k := 3) ((cal__law_take T).mono (by decide)) hr hd.1 (n_gs 0 (n_gv n_int n_gnil)))) n_gnil))) n_nil)) (tg_var 12) (fun s H C cl fp => (pg_name (i := 12) sc__law_right.nd rfl (by first | exact .inl rfl | exact .inr rfl))) (fun F0 H0 as s H C cl fp => n_yes) (fun F0 H0 as s H C cl fp => (n_bin op_mulU s_mul (n_var 1) (n_callP (k := 3) ((cal__law_factor T).mono (by decide)) hr.blk takes0 (n_gs 0 n_gnil)))))
    (n_seq (n_asg 3 sc__law_right.nd (n_callP (k := 3) ((cal__law_number T).mono (by decide)) hr hd.1 (n_gs 0 n_gnil)))
    (n_seq (n_asg 4 sc__law_right.nd n_int)
    (n_seq (n_for (ws := [5]) hd.2 rfl (n_iter (n_var 2) rfl) (pg_name (i := 5) sc__law_right.nd rfl (by first | exact .inl rfl | exact .inr rfl)) (tg_var 5) (n_last (n_asg 4 sc__law_right.nd (n_call (ks := []) (k := 3) ((cal__law_common T).mono (by decide)) hr hd.1 (grel_all 2) (n_cons (n_var 4) (n_cons (n_cb call_abs s_abs (T.free fx_abs) (n_cons (n_var 5) n_nil)) n_nil)) n_knil))))
    (n_seq (n_asg 6 sc__law_right.nd (n_bin op_addU s_add (n_var 2) (n_slice sl_U s_slice (n_var 2) n_pnone (n_psome (n_bin op_addU s_add n_int (n_callP (k := 3) ((cal__law_take T).mono (by decide)) hr hd.1 (n_gs 0 (n_gv n_int n_gnil))))))))
    (n_seq (n_asgComp 7 [("_law_coef", 5)] sc__law_right.nd (n_rev (T.free fx_reversed) rfl (n_var 2)) (tg_var 5) (fun s H C cl fp => (pg_name (i := 5) sc__law_right.nd rfl (by first | exact .inl rfl | exact .inr rfl))) (fun F0 H0 as s H C cl fp => n_yes) (fun F0 H0 as s H C cl fp => (n_bin op_sub s_iI n_int (n_var 5))))
    (n_seq (n_asg 8 sc__law_right.nd (n_lst (n_cons (n_bin op_addU s_add (n_lst (n_cons (n_var 3) n_nil)) (n_var 2)) (n_cons (n_bin op_addU s_add (n_tup (n_cons (n_var 3) n_nil)) (n_ct call_tupleN s_tup (T.free fx_tuple) (n_cons (n_var 2) n_nil))) (n_cons (n_bin op_addU s_add (n_lst (n_cons (n_bin op_fdivW s_fdiv (n_var 3) n_int) n_nil)) (n_var 2)) n_nil)))))
    (n_seq (n_asg 8 sc__law_right.nd (n_bin op_addU s_add (n_var 8) (n_lst (n_cons (n_bin op_addU s_add (n_lst (n_cons n_int n_nil)) (n_var 6)) (n_cons (n_bin op_addU s_add (n_lst (n_cons (n_var 4) n_nil)) (n_var 7)) n_nil)))))
    (n_seq (n_asg 9 sc__law_right.nd (n_cb (call_reprU (room_u hr) hr.g) s_repr (T.free fx_repr) (n_cons (n_var 8) n_nil)))
    (n_seq (n_for (ws := [10]) hd.2 rfl (n_iter (n_var 8) rfl) (pg_name (i := 10) sc__law_right.nd rfl (by first | exact .inl rfl | exact .inr rfl)) (tg_var 10) (n_last (n_ifS (n_tcmp (op_neU (room_64 hr)) s_ne (n_cb (call_reprU (room_u hr) hr.g) s_repr (T.free fx_repr) (n_cons (n_call (ks := []) (k := 3) ((cal_divisor_of T).mono (by decide)) hr hd.1 (grel_all 1) (n_cons (n_var 10) n_nil) n_knil) n_nil)) (n_cb (call_reprU (room_u hr) hr.g) s_repr (T.free fx_repr) (n_cons (n_var 4) n_nil))) (n_last (n_ret n_bl)) n_end)))
    (n_seq (n_ifS (PW.pt (n_tand (n_tcmp op_gtU s_ord (n_var 4) n_int) (n_tand1 (n_tcmp (op_neU (room_64 hr)) s_ne (n_cb (call_reprU (room_u hr) hr.g) s_repr (T.free fx_repr) (n_cons (n_call (ks := []) (k := 3) ((cal_divisor_of T).mono (by decide)) hr hd.1 (grel_all 1) (n_cons (n_bin op_addU s_add (n_lst (n_cons n_int n_nil)) (n_comp [("_law_coef", 5)] sc__law_right.nd (n_iter (n_var 2) rfl) (tg_var 5) (fun s H C cl fp => (pg_name (i := 5) sc__law_right.nd rfl (by first | exact .inl rfl | exact .inr rfl))) (fun F0 H0 as s H C cl fp => n_yes) (fun F0 H0 as s H C cl fp => (n_bin op_fdivW s_fdiv (n_var 5) (n_var 4))))) n_nil) n_knil) n_nil)) n_str)))) (n_last (n_ret n_bl)) n_end)
    (n_seq (n_ifS (n_tcmp (op_neU (room_64 hr)) s_ne (n_cb (call_reprU (room_u hr) hr.g) s_repr (T.free fx_repr) (n_cons (n_call (ks := []) (k := 3) ((cal_divisor_of T).mono (by decide)) hr hd.1 (grel_all 1) (n_cons (n_tup (n_cons (n_var 4) n_nil)) n_nil) n_knil) n_nil)) n_str) (n_last (n_ret n_bl)) n_end)
    (n_seq (n_asg 11 sc__law_right.nd (n_bin op_mulU s_mul (n_callP (k := 3) ((cal__law_great T).mono (by decide)) hr hd.1 (n_gs 0 n_gnil)) (n_ix ix_seq s_ix (n_lst (n_cons n_int (n_cons (n_un un_neg s_neg n_int) n_nil))) (n_callP (k := 3) ((cal__law_take T).mono (by decide)) hr hd.1 (n_gs 0 (n_gv n_int n_gnil))))))
    (n_seq (n_ifS (n_tcmp (op_neU (room_64 hr)) s_ne (n_cb (call_reprU (room_u hr) hr.g) s_repr (T.free fx_repr) (n_cons (n_call (ks := []) (k := 3) ((cal_divisor_of T).mono (by decide)) hr hd.1 (grel_all 1) (n_cons (n_call (ks := ["width"]) (k := 3) ((calk_added T).mono (by decide)) hr hd.1 (grel_kw 2 1) (n_cons (n_lst (n_cons (n_bin op_addU s_add (n_lst (n_cons (n_var 3) n_nil)) (n_var 2)) n_nil)) (n_cons (n_lst (n_cons (n_var 11) n_nil)) n_nil)) (n_kcons (n_lenV 2 (T.free fx_len) rfl) n_knil)) n_nil) n_knil) n_nil)) (n_cb (call_reprU (room_u hr) hr.g) s_repr (T.free fx_repr) (n_cons (n_bin op_mulU s_mul (n_var 4) (n_cb call_abs s_abs (T.free fx_abs) (n_cons (n_var 11) n_nil))) n_nil))) (n_last (n_ret n_bl)) n_end)
    (n_last (n_ret (n_cmp (op_eqU (room_64 hr)) s_eq (n_cb (call_reprU (room_u hr) hr.g) s_repr (T.free fx_repr) (n_cons (n_var 8) n_nil)) (n_var 9)))))))))))))))))))
theorem cal__law_right (T : Tx w K mg h) : Cal P w K mg base 4 "_law_right" 1 [] (fun vs _ => vs) (spF ⟨K, mg⟩ C0 1 (some 0) f__law_right) := by
  obtain ⟨fd, F⟩ := T.d.def_ 9 (d := dd "_law_right" 12) rfl
  exact cal_of (ps := ["_law_pool_here"]) T.kx T.g (T.fact 9) F (ok__law_right T F) (fun _ _ _ _ _ _ us hl => match us, hl with | [_], _ => rfl)
/-! law -/
theorem sc_law : FnScope ["_law_script", "_law_cells", "_law_k"] ["_law_script"] (defScope (topS 13)) := ⟨rfl, rfl, rfl, by decide +kernel, rfl, by decide +kernel, by decide +kernel⟩
def F_law : FE.Env → OS := (sSeq (sAsg 1 (oCall f__law_folded 2 0 (fun ds _ => ds) (oCons (oVar 0) (oCons (oC (.int 8)) oNil)) oNil)) (sRet (oCallB (bolF fun bs => bs.all id) (oCons (oLc (iRg1 (oCons (oLenV 1) oNil)) (gVar 2) oYes (oCallP f__law_right 1 0 (oGo (oCall f__law_pool 2 0 (fun ds _ => ds) (oCons (oVar 1) (oCons (oVar 2) oNil)) oNil))) [2]) oNil))))
def f_law : List D → OC := runF 3 none F_law
theorem ok_law (T : Tx w K mg h) {fd : FuncData} (F : FunD K "law" "law" (defArgs (topS 13)) (defBody (topS 13)) (defScope (topS 13)) [] [] (He.ga K "law") fd) : FnG P w K mg base 5 (He.ga K "law") fd ["_law_script"] (spF ⟨K, mg⟩ C0 1 none f_law) := by
  refine fnF F sc_law none (fun cdv A outer s H E F0 as hr hd => ?_)
  exact (n_seq (n_asg 1 sc_law.nd (n_call (ks := []) (k := 4) ((cal__law_folded T).mono (by decide)) hr hd.1 (grel_all 2) (n_cons (n_var 0) (n_cons n_int n_nil)) n_knil))
    (n_last (n_ret (n_cb (cr_all rfl) s_all (T.free fx_all) (n_cons (n_comp [("_law_k", 2)] sc_law.nd (n_rng1 (T.free fx_range) (n_cons (n_lenV 1 (T.free fx_len) rfl) n_nil)) (tg_var 2) (fun s H C cl fp => (pg_name (i := 2) sc_law.nd rfl (by first | exact .inl rfl | exact .inr rfl))) (fun F0 H0 as s H C cl fp => n_yes) (fun F0 H0 as s H C cl fp => (n_callP (k := 4) ((cal__law_right T).mono (by decide)) hr.blk takes0 (n_go (n_call (ks := []) (k := 4) ((cal__law_pool T).mono (by decide)) hr.blk takes0 (grel_all 2) (n_cons (n_var 1) (n_cons (n_var 2) n_nil)) n_knil))))) n_nil)))))
theorem cal_law (T : Tx w K mg h) : Cal P w K mg base 5 "law" 1 [] (fun vs _ => vs) (spF ⟨K, mg⟩ C0 1 none f_law) := by
  obtain ⟨fd, F⟩ := T.d.def_ 10 (d := dd "law" 13) rfl
  exact cal_of (ps := ["_law_script"]) T.kx T.g (T.fact 10) F (ok_law T F) (fun _ _ _ _ _ _ us hl => match us, hl with | [_], _ => rfl)
/-! the head -/
abbrev R : PySem.W.OpenRow := PySem.W.OpenLaw.row Lw
abbrev hk : PySem.W.Hook := He.hookX 4 fa fn [] [] ex
def ob (s : PySem.W.SharedT) : He.AlX := He.obsX 4 fa fn [] [] ex (HandSHeadRun.getT s)
theorem ob_eq (s : PySem.W.SharedT) : ob s = hk.obs s.abs := He.obsX_eq (HandSHeadRun.getT_eq s)
def loose : List PySem.Str := ["gcd", "added", "divisor_of", "_law_pool", "_law_take", "_law_folded", "_law_great", "_law_number", "_law_common", "_law_factor", "_law_right"]
theorem run (w : World) : HandSHeadRun.RunEqI R (PySem.W.view R.prog [0, 13]) hk ob 4000 loose w := by
  unfold HandSHeadRun.RunEqI
  kernel_rfl
end countfold_k09_what_divides_coefs

namespace countfold_k09_what_divides_coefs
open PySem PySem.Spec PyProof.Rows L2 FE
theorem take_ok (a b c m : Int) (ha : 0 ≤ a) (hb : 0 ≤ b) (hb2 : b < 1000000007) (hc : 0 ≤ c) (hc2 : c < 10 ^ 6) (hm : 1 ≤ m) (hm2 : m ≤ 10 ^ 60) :
    ∃ v a' c', f__law_take [.lst [.int a, .int b, .int c], .int m] = .ret (.sh (.int v)) [.int a', .int b, .int c'] ∧ 0 ≤ v ∧ v < m ∧ 0 ≤ a' ∧ 0 ≤ c' ∧ c' ≤ c + 1 := by
  have m0 : 0 < m := by omega
  have m9 : 0 < m ∧ m.natAbs.log2 < 9000 := div_ok m0 (by omega)
  by_cases h : 0 < a
  · refine ⟨a % m, a / m, c, ?_, Int.emod_nonneg _ (by omega), Int.emod_lt_of_pos _ m0, Int.ediv_nonneg ha (by omega), hc, by omega⟩
    simp only [f__law_take, F__law_take, e_iEn, e_iEnK, e_enD, e_iZq, e_iZqK, e_zq_ll, e_zq_tt, e_zq_lt, e_zq_tl, e_asgT, e_asgTK, e_asgO, e_call0, List.reverse_cons, List.reverse_nil, e_cmpV, e_cvH, e_cvB, e_cvO, e_cvZ, e_join, e_jK1, e_jK2, e_len_s, e_whK_f, e_whK_t, e_whS, restE, List.getD_cons_zero, List.getD_cons_succ, List.getD_nil, d_pow_6, d_pow_12, d_pow_18, d_pow_30, e_OE_bind_ok, e_OE_bind_exc, e_OE_bindT_ok, e_OE_bindT_exc, e_OE_bindA_ok, e_OE_bindA_exc, e_OE_bindS_ok, e_OE_bindS_exc, e_OE_bindI_ok, e_OE_bindI_exc, e_OE_bindG_ok, e_OE_bindG_exc, e_OT_bind_ok, e_OT_bind_exc, e_OT_bindE_ok, e_OT_bindE_exc, e_OT_bindS_ok, e_OT_bindS_exc, e_OA_bind_ok, e_OA_bind_exc, e_OA_bindE_ok, e_OA_bindE_exc, e_OA_bindI_ok, e_OA_bindI_exc, e_OI_bindE_ok, e_OI_bindE_exc, e_OI_bindS_ok, e_OI_bindS_exc, e_OG_bind_ok, e_OG_bind_exc, e_OG_bindE_ok, e_OG_bindE_exc, e_seq_nx, e_seq_ret, e_seq_brk, e_seq_cnt, e_seq_exc, e_var, e_varK_sh, e_varK_ow, e_mv, e_mvK_sh, e_mvK_ow, e_c, e_okO, e_op2, e_opK1, e_opK2, e_un, e_unK, e_and, e_or, e_not, e_tru, e_andK_t, e_andK_f, e_orK_t, e_orK_f, e_notK, e_truK, e_if, e_tand, e_tor, e_tnot, e_sif, e_ifK_t, e_ifK_f, e_sifK_t, e_sifK_f, e_tandK_t, e_tandK_f, e_torK_t, e_torK_f, e_tnotK, e_nil, e_cons, e_consK1, e_consK2, e_tup, e_lst, e_cb, e_tupK, e_lstK, e_cbK, e_chain, e_chK1, e_chK2, e_chK3, e_chB_t, e_chB_f, e_ixV, e_ixH, e_ixVK, e_ixE_own, e_ixE_sh, e_atO, e_ownAt, e_ownS_ow, e_ownS_io, e_ownS_lst, e_ownS_tup, e_ownS_str, e_ownS_int, e_lenV, e_lenK_own, e_lenK_sh, e_here_no, e_noIo_no, e_Own_no, e_here_sh, e_noIo_sh, e_Own_sh, e_here_ow, e_noIo_ow, e_Own_ow, e_here_io, e_noIo_io, e_Own_io, e_fz_sh, e_fz_ow, e_sv_sh, e_sv_ow, e_ret, e_retK, e_retN, e_expr, e_exprK, e_pass, e_break, e_cont, e_asg, e_asgK, e_asgB, e_sseq, e_set, e_setK1, e_setB, e_setK2, e_setO, e_setJ, e_nxO, e_setOwn, e_soK_ow, e_soK_io, e_app, e_appB, e_appK, e_appO, e_par, e_parA, e_parK, e_okI, e_iVal, e_iValK, e_items_lst, e_items_tup, e_items_str, e_iZp, e_iZpK, e_zp_l, e_zp_t, e_iRv, e_iRvK, e_rv_l, e_rv_t, e_iRg1, e_iRg1K, e_rg1, e_iRg2, e_iRg2K, e_rg2, e_for, e_forK, e_for_nil, e_for_cons, e_forG, e_forS_nx, e_forS_cnt, e_forS_brk, e_forS_ret, e_forS_exc, e_gVar, e_gvB, e_gTup, e_gTupW, e_gCons, e_gNil, d_add_i, d_add_s, d_add_l, d_add_t, d_mul_i, d_mul_s, d_mul_l, d_fdiv, d_mod, d_pow, d_neg, d_iI, d_ord_i, d_ord_s, d_eq_i, d_eq_s, d_ne_i, d_ne_s, d_len_l, d_len_t, d_abs, d_gcd, d_max2, d_min2, d_tup_l, d_tup_t, d_ix_l, d_ix_t, d_atR, at_0, at_1, at_2, ixn_0, ixn_1, ixn_2, e_run, e_fin_ret, e_fin_nx, e_fin_exc, e_outR, e_outX, e_out_none, e_out_some, e_ioS, e_arg_none, e_arg_nil, e_arg_0, e_arg_s, e_ioD, e_call, e_calK1, e_calK2, e_calO_ret, e_calO_exc, e_callP, e_cpK, e_cpD, e_cpC_s, e_cpC_x, e_cpC_o, e_cpS, e_cpX, e_gnil, e_gv, e_gvK1, e_gvK2, e_gs, e_gsB, e_gsK, e_go, e_goK, e_ads_nil, e_ads_cons, e_adC, e_adC2, e_adD_v, e_adD_s, e_adD_o, e_adO, e_pi, e_piK, e_sl, e_slK1, e_slK2, e_slK3, e_slO, e_part_n, e_part_i, d_slice_l, d_slice_t, e_sl3, e_s3K1, e_s3K2, e_s3K3, e_s3K4, e_s3O, e_lc, e_lcK, e_lcB, e_lcR, e_yes, e_okW2, e_okWS_no, e_okWS_sh, eq_self, log_7, List.length_cons, List.length_nil, List.map_cons, List.map_nil, List.cons_append, List.nil_append, List.replicate_succ, List.replicate_zero, List.append_nil, List.getElem?_cons_zero, List.getElem?_cons_succ, List.getElem?_nil, List.set_cons_zero, List.set_cons_succ, Option.bind_some, Option.bind_none, Option.isSome_some, Nat.reduceAdd, Nat.reduceSub, Nat.reduceLT, Nat.reduceLeDiff, Nat.reduceEqDiff, Int.reduceAdd, Int.reduceMul, Int.reduceNeg, Int.reducePow, Int.reduceLT, Int.reduceLE, and_self, and_true, true_and, if_true, if_false, ↓reduceIte, Bool.not_true, Bool.not_false, decide_true, decide_false, decide_eq_true_eq, List.all_cons, List.all_nil, Bool.and_true, Bool.true_and, Bool.and_self, wipeE, adPl, Int.reduceToNat, rng_5, abs_10, h, m0, m9]
  · have q1 := mul_le_big (i := 69621) (j := c + 1) (a := 69621) (b := 10 ^ 6) (by omega) (by omega) (by omega) (by omega)
    have q2 := mul_le_big (i := 69621 * (c + 1)) (j := c + 1) (a := 69621 * 10 ^ 6) (b := 10 ^ 6) (by omega) (by omega) (by omega) (by omega)
    suffices g : ∃ v, f__law_take [.lst [.int a, .int b, .int c], .int m] = .ret (.sh (.int (v % m))) [.int a, .int b, .int (c + 1)] by
      obtain ⟨v, g⟩ := g
      exact ⟨v % m, a, c + 1, g, Int.emod_nonneg _ (by omega), Int.emod_lt_of_pos _ m0, ha, by omega, by omega⟩
    simp only [f__law_take, F__law_take, e_iEn, e_iEnK, e_enD, e_iZq, e_iZqK, e_zq_ll, e_zq_tt, e_zq_lt, e_zq_tl, e_asgT, e_asgTK, e_asgO, e_call0, List.reverse_cons, List.reverse_nil, e_cmpV, e_cvH, e_cvB, e_cvO, e_cvZ, e_join, e_jK1, e_jK2, e_len_s, e_whK_f, e_whK_t, e_whS, restE, List.getD_cons_zero, List.getD_cons_succ, List.getD_nil, d_pow_6, d_pow_12, d_pow_18, d_pow_30, e_OE_bind_ok, e_OE_bind_exc, e_OE_bindT_ok, e_OE_bindT_exc, e_OE_bindA_ok, e_OE_bindA_exc, e_OE_bindS_ok, e_OE_bindS_exc, e_OE_bindI_ok, e_OE_bindI_exc, e_OE_bindG_ok, e_OE_bindG_exc, e_OT_bind_ok, e_OT_bind_exc, e_OT_bindE_ok, e_OT_bindE_exc, e_OT_bindS_ok, e_OT_bindS_exc, e_OA_bind_ok, e_OA_bind_exc, e_OA_bindE_ok, e_OA_bindE_exc, e_OA_bindI_ok, e_OA_bindI_exc, e_OI_bindE_ok, e_OI_bindE_exc, e_OI_bindS_ok, e_OI_bindS_exc, e_OG_bind_ok, e_OG_bind_exc, e_OG_bindE_ok, e_OG_bindE_exc, e_seq_nx, e_seq_ret, e_seq_brk, e_seq_cnt, e_seq_exc, e_var, e_varK_sh, e_varK_ow, e_mv, e_mvK_sh, e_mvK_ow, e_c, e_okO, e_op2, e_opK1, e_opK2, e_un, e_unK, e_and, e_or, e_not, e_tru, e_andK_t, e_andK_f, e_orK_t, e_orK_f, e_notK, e_truK, e_if, e_tand, e_tor, e_tnot, e_sif, e_ifK_t, e_ifK_f, e_sifK_t, e_sifK_f, e_tandK_t, e_tandK_f, e_torK_t, e_torK_f, e_tnotK, e_nil, e_cons, e_consK1, e_consK2, e_tup, e_lst, e_cb, e_tupK, e_lstK, e_cbK, e_chain, e_chK1, e_chK2, e_chK3, e_chB_t, e_chB_f, e_ixV, e_ixH, e_ixVK, e_ixE_own, e_ixE_sh, e_atO, e_ownAt, e_ownS_ow, e_ownS_io, e_ownS_lst, e_ownS_tup, e_ownS_str, e_ownS_int, e_lenV, e_lenK_own, e_lenK_sh, e_here_no, e_noIo_no, e_Own_no, e_here_sh, e_noIo_sh, e_Own_sh, e_here_ow, e_noIo_ow, e_Own_ow, e_here_io, e_noIo_io, e_Own_io, e_fz_sh, e_fz_ow, e_sv_sh, e_sv_ow, e_ret, e_retK, e_retN, e_expr, e_exprK, e_pass, e_break, e_cont, e_asg, e_asgK, e_asgB, e_sseq, e_set, e_setK1, e_setB, e_setK2, e_setO, e_setJ, e_nxO, e_setOwn, e_soK_ow, e_soK_io, e_app, e_appB, e_appK, e_appO, e_par, e_parA, e_parK, e_okI, e_iVal, e_iValK, e_items_lst, e_items_tup, e_items_str, e_iZp, e_iZpK, e_zp_l, e_zp_t, e_iRv, e_iRvK, e_rv_l, e_rv_t, e_iRg1, e_iRg1K, e_rg1, e_iRg2, e_iRg2K, e_rg2, e_for, e_forK, e_for_nil, e_for_cons, e_forG, e_forS_nx, e_forS_cnt, e_forS_brk, e_forS_ret, e_forS_exc, e_gVar, e_gvB, e_gTup, e_gTupW, e_gCons, e_gNil, d_add_i, d_add_s, d_add_l, d_add_t, d_mul_i, d_mul_s, d_mul_l, d_fdiv, d_mod, d_pow, d_neg, d_iI, d_ord_i, d_ord_s, d_eq_i, d_eq_s, d_ne_i, d_ne_s, d_len_l, d_len_t, d_abs, d_gcd, d_max2, d_min2, d_tup_l, d_tup_t, d_ix_l, d_ix_t, d_atR, at_0, at_1, at_2, ixn_0, ixn_1, ixn_2, e_run, e_fin_ret, e_fin_nx, e_fin_exc, e_outR, e_outX, e_out_none, e_out_some, e_ioS, e_arg_none, e_arg_nil, e_arg_0, e_arg_s, e_ioD, e_call, e_calK1, e_calK2, e_calO_ret, e_calO_exc, e_callP, e_cpK, e_cpD, e_cpC_s, e_cpC_x, e_cpC_o, e_cpS, e_cpX, e_gnil, e_gv, e_gvK1, e_gvK2, e_gs, e_gsB, e_gsK, e_go, e_goK, e_ads_nil, e_ads_cons, e_adC, e_adC2, e_adD_v, e_adD_s, e_adD_o, e_adO, e_pi, e_piK, e_sl, e_slK1, e_slK2, e_slK3, e_slO, e_part_n, e_part_i, d_slice_l, d_slice_t, e_sl3, e_s3K1, e_s3K2, e_s3K3, e_s3K4, e_s3O, e_lc, e_lcK, e_lcB, e_lcR, e_yes, e_okW2, e_okWS_no, e_okWS_sh, eq_self, log_7, List.length_cons, List.length_nil, List.map_cons, List.map_nil, List.cons_append, List.nil_append, List.replicate_succ, List.replicate_zero, List.append_nil, List.getElem?_cons_zero, List.getElem?_cons_succ, List.getElem?_nil, List.set_cons_zero, List.set_cons_succ, Option.bind_some, Option.bind_none, Option.isSome_some, Nat.reduceAdd, Nat.reduceSub, Nat.reduceLT, Nat.reduceLeDiff, Nat.reduceEqDiff, Int.reduceAdd, Int.reduceMul, Int.reduceNeg, Int.reducePow, Int.reduceLT, Int.reduceLE, and_self, and_true, true_and, if_true, if_false, ↓reduceIte, Bool.not_true, Bool.not_false, decide_true, decide_false, decide_eq_true_eq, List.all_cons, List.all_nil, Bool.and_true, Bool.true_and, Bool.and_self, wipeE, adPl, Int.reduceToNat, rng_5, abs_10, h, m0, m9]
    rw [if_pos (mul_ok (by omega) (by omega) (by omega) (by omega))]
    simp only [e_iEn, e_iEnK, e_enD, e_iZq, e_iZqK, e_zq_ll, e_zq_tt, e_zq_lt, e_zq_tl, e_asgT, e_asgTK, e_asgO, e_call0, List.reverse_cons, List.reverse_nil, e_cmpV, e_cvH, e_cvB, e_cvO, e_cvZ, e_join, e_jK1, e_jK2, e_len_s, e_whK_f, e_whK_t, e_whS, restE, List.getD_cons_zero, List.getD_cons_succ, List.getD_nil, d_pow_6, d_pow_12, d_pow_18, d_pow_30, e_OE_bind_ok, e_OE_bind_exc, e_OE_bindT_ok, e_OE_bindT_exc, e_OE_bindA_ok, e_OE_bindA_exc, e_OE_bindS_ok, e_OE_bindS_exc, e_OE_bindI_ok, e_OE_bindI_exc, e_OE_bindG_ok, e_OE_bindG_exc, e_OT_bind_ok, e_OT_bind_exc, e_OT_bindE_ok, e_OT_bindE_exc, e_OT_bindS_ok, e_OT_bindS_exc, e_OA_bind_ok, e_OA_bind_exc, e_OA_bindE_ok, e_OA_bindE_exc, e_OA_bindI_ok, e_OA_bindI_exc, e_OI_bindE_ok, e_OI_bindE_exc, e_OI_bindS_ok, e_OI_bindS_exc, e_OG_bind_ok, e_OG_bind_exc, e_OG_bindE_ok, e_OG_bindE_exc, e_seq_nx, e_seq_ret, e_seq_brk, e_seq_cnt, e_seq_exc, e_var, e_varK_sh, e_varK_ow, e_mv, e_mvK_sh, e_mvK_ow, e_c, e_okO, e_op2, e_opK1, e_opK2, e_un, e_unK, e_and, e_or, e_not, e_tru, e_andK_t, e_andK_f, e_orK_t, e_orK_f, e_notK, e_truK, e_if, e_tand, e_tor, e_tnot, e_sif, e_ifK_t, e_ifK_f, e_sifK_t, e_sifK_f, e_tandK_t, e_tandK_f, e_torK_t, e_torK_f, e_tnotK, e_nil, e_cons, e_consK1, e_consK2, e_tup, e_lst, e_cb, e_tupK, e_lstK, e_cbK, e_chain, e_chK1, e_chK2, e_chK3, e_chB_t, e_chB_f, e_ixV, e_ixH, e_ixVK, e_ixE_own, e_ixE_sh, e_atO, e_ownAt, e_ownS_ow, e_ownS_io, e_ownS_lst, e_ownS_tup, e_ownS_str, e_ownS_int, e_lenV, e_lenK_own, e_lenK_sh, e_here_no, e_noIo_no, e_Own_no, e_here_sh, e_noIo_sh, e_Own_sh, e_here_ow, e_noIo_ow, e_Own_ow, e_here_io, e_noIo_io, e_Own_io, e_fz_sh, e_fz_ow, e_sv_sh, e_sv_ow, e_ret, e_retK, e_retN, e_expr, e_exprK, e_pass, e_break, e_cont, e_asg, e_asgK, e_asgB, e_sseq, e_set, e_setK1, e_setB, e_setK2, e_setO, e_setJ, e_nxO, e_setOwn, e_soK_ow, e_soK_io, e_app, e_appB, e_appK, e_appO, e_par, e_parA, e_parK, e_okI, e_iVal, e_iValK, e_items_lst, e_items_tup, e_items_str, e_iZp, e_iZpK, e_zp_l, e_zp_t, e_iRv, e_iRvK, e_rv_l, e_rv_t, e_iRg1, e_iRg1K, e_rg1, e_iRg2, e_iRg2K, e_rg2, e_for, e_forK, e_for_nil, e_for_cons, e_forG, e_forS_nx, e_forS_cnt, e_forS_brk, e_forS_ret, e_forS_exc, e_gVar, e_gvB, e_gTup, e_gTupW, e_gCons, e_gNil, d_add_i, d_add_s, d_add_l, d_add_t, d_mul_i, d_mul_s, d_mul_l, d_fdiv, d_mod, d_pow, d_neg, d_iI, d_ord_i, d_ord_s, d_eq_i, d_eq_s, d_ne_i, d_ne_s, d_len_l, d_len_t, d_abs, d_gcd, d_max2, d_min2, d_tup_l, d_tup_t, d_ix_l, d_ix_t, d_atR, at_0, at_1, at_2, ixn_0, ixn_1, ixn_2, e_run, e_fin_ret, e_fin_nx, e_fin_exc, e_outR, e_outX, e_out_none, e_out_some, e_ioS, e_arg_none, e_arg_nil, e_arg_0, e_arg_s, e_ioD, e_call, e_calK1, e_calK2, e_calO_ret, e_calO_exc, e_callP, e_cpK, e_cpD, e_cpC_s, e_cpC_x, e_cpC_o, e_cpS, e_cpX, e_gnil, e_gv, e_gvK1, e_gvK2, e_gs, e_gsB, e_gsK, e_go, e_goK, e_ads_nil, e_ads_cons, e_adC, e_adC2, e_adD_v, e_adD_s, e_adD_o, e_adO, e_pi, e_piK, e_sl, e_slK1, e_slK2, e_slK3, e_slO, e_part_n, e_part_i, d_slice_l, d_slice_t, e_sl3, e_s3K1, e_s3K2, e_s3K3, e_s3K4, e_s3O, e_lc, e_lcK, e_lcB, e_lcR, e_yes, e_okW2, e_okWS_no, e_okWS_sh, eq_self, log_7, List.length_cons, List.length_nil, List.map_cons, List.map_nil, List.cons_append, List.nil_append, List.replicate_succ, List.replicate_zero, List.append_nil, List.getElem?_cons_zero, List.getElem?_cons_succ, List.getElem?_nil, List.set_cons_zero, List.set_cons_succ, Option.bind_some, Option.bind_none, Option.isSome_some, Nat.reduceAdd, Nat.reduceSub, Nat.reduceLT, Nat.reduceLeDiff, Nat.reduceEqDiff, Int.reduceAdd, Int.reduceMul, Int.reduceNeg, Int.reducePow, Int.reduceLT, Int.reduceLE, and_self, and_true, true_and, if_true, if_false, ↓reduceIte, Bool.not_true, Bool.not_false, decide_true, decide_false, decide_eq_true_eq, List.all_cons, List.all_nil, Bool.and_true, Bool.true_and, Bool.and_self, wipeE, adPl, Int.reduceToNat, rng_5, abs_10, h, m0, m9]
    rw [if_pos (mul_ok (by omega) (by omega) (by omega) (by omega))]
    simp only [e_iEn, e_iEnK, e_enD, e_iZq, e_iZqK, e_zq_ll, e_zq_tt, e_zq_lt, e_zq_tl, e_asgT, e_asgTK, e_asgO, e_call0, List.reverse_cons, List.reverse_nil, e_cmpV, e_cvH, e_cvB, e_cvO, e_cvZ, e_join, e_jK1, e_jK2, e_len_s, e_whK_f, e_whK_t, e_whS, restE, List.getD_cons_zero, List.getD_cons_succ, List.getD_nil, d_pow_6, d_pow_12, d_pow_18, d_pow_30, e_OE_bind_ok, e_OE_bind_exc, e_OE_bindT_ok, e_OE_bindT_exc, e_OE_bindA_ok, e_OE_bindA_exc, e_OE_bindS_ok, e_OE_bindS_exc, e_OE_bindI_ok, e_OE_bindI_exc, e_OE_bindG_ok, e_OE_bindG_exc, e_OT_bind_ok, e_OT_bind_exc, e_OT_bindE_ok, e_OT_bindE_exc, e_OT_bindS_ok, e_OT_bindS_exc, e_OA_bind_ok, e_OA_bind_exc, e_OA_bindE_ok, e_OA_bindE_exc, e_OA_bindI_ok, e_OA_bindI_exc, e_OI_bindE_ok, e_OI_bindE_exc, e_OI_bindS_ok, e_OI_bindS_exc, e_OG_bind_ok, e_OG_bind_exc, e_OG_bindE_ok, e_OG_bindE_exc, e_seq_nx, e_seq_ret, e_seq_brk, e_seq_cnt, e_seq_exc, e_var, e_varK_sh, e_varK_ow, e_mv, e_mvK_sh, e_mvK_ow, e_c, e_okO, e_op2, e_opK1, e_opK2, e_un, e_unK, e_and, e_or, e_not, e_tru, e_andK_t, e_andK_f, e_orK_t, e_orK_f, e_notK, e_truK, e_if, e_tand, e_tor, e_tnot, e_sif, e_ifK_t, e_ifK_f, e_sifK_t, e_sifK_f, e_tandK_t, e_tandK_f, e_torK_t, e_torK_f, e_tnotK, e_nil, e_cons, e_consK1, e_consK2, e_tup, e_lst, e_cb, e_tupK, e_lstK, e_cbK, e_chain, e_chK1, e_chK2, e_chK3, e_chB_t, e_chB_f, e_ixV, e_ixH, e_ixVK, e_ixE_own, e_ixE_sh, e_atO, e_ownAt, e_ownS_ow, e_ownS_io, e_ownS_lst, e_ownS_tup, e_ownS_str, e_ownS_int, e_lenV, e_lenK_own, e_lenK_sh, e_here_no, e_noIo_no, e_Own_no, e_here_sh, e_noIo_sh, e_Own_sh, e_here_ow, e_noIo_ow, e_Own_ow, e_here_io, e_noIo_io, e_Own_io, e_fz_sh, e_fz_ow, e_sv_sh, e_sv_ow, e_ret, e_retK, e_retN, e_expr, e_exprK, e_pass, e_break, e_cont, e_asg, e_asgK, e_asgB, e_sseq, e_set, e_setK1, e_setB, e_setK2, e_setO, e_setJ, e_nxO, e_setOwn, e_soK_ow, e_soK_io, e_app, e_appB, e_appK, e_appO, e_par, e_parA, e_parK, e_okI, e_iVal, e_iValK, e_items_lst, e_items_tup, e_items_str, e_iZp, e_iZpK, e_zp_l, e_zp_t, e_iRv, e_iRvK, e_rv_l, e_rv_t, e_iRg1, e_iRg1K, e_rg1, e_iRg2, e_iRg2K, e_rg2, e_for, e_forK, e_for_nil, e_for_cons, e_forG, e_forS_nx, e_forS_cnt, e_forS_brk, e_forS_ret, e_forS_exc, e_gVar, e_gvB, e_gTup, e_gTupW, e_gCons, e_gNil, d_add_i, d_add_s, d_add_l, d_add_t, d_mul_i, d_mul_s, d_mul_l, d_fdiv, d_mod, d_pow, d_neg, d_iI, d_ord_i, d_ord_s, d_eq_i, d_eq_s, d_ne_i, d_ne_s, d_len_l, d_len_t, d_abs, d_gcd, d_max2, d_min2, d_tup_l, d_tup_t, d_ix_l, d_ix_t, d_atR, at_0, at_1, at_2, ixn_0, ixn_1, ixn_2, e_run, e_fin_ret, e_fin_nx, e_fin_exc, e_outR, e_outX, e_out_none, e_out_some, e_ioS, e_arg_none, e_arg_nil, e_arg_0, e_arg_s, e_ioD, e_call, e_calK1, e_calK2, e_calO_ret, e_calO_exc, e_callP, e_cpK, e_cpD, e_cpC_s, e_cpC_x, e_cpC_o, e_cpS, e_cpX, e_gnil, e_gv, e_gvK1, e_gvK2, e_gs, e_gsB, e_gsK, e_go, e_goK, e_ads_nil, e_ads_cons, e_adC, e_adC2, e_adD_v, e_adD_s, e_adD_o, e_adO, e_pi, e_piK, e_sl, e_slK1, e_slK2, e_slK3, e_slO, e_part_n, e_part_i, d_slice_l, d_slice_t, e_sl3, e_s3K1, e_s3K2, e_s3K3, e_s3K4, e_s3O, e_lc, e_lcK, e_lcB, e_lcR, e_yes, e_okW2, e_okWS_no, e_okWS_sh, eq_self, log_7, List.length_cons, List.length_nil, List.map_cons, List.map_nil, List.cons_append, List.nil_append, List.replicate_succ, List.replicate_zero, List.append_nil, List.getElem?_cons_zero, List.getElem?_cons_succ, List.getElem?_nil, List.set_cons_zero, List.set_cons_succ, Option.bind_some, Option.bind_none, Option.isSome_some, Nat.reduceAdd, Nat.reduceSub, Nat.reduceLT, Nat.reduceLeDiff, Nat.reduceEqDiff, Int.reduceAdd, Int.reduceMul, Int.reduceNeg, Int.reducePow, Int.reduceLT, Int.reduceLE, and_self, and_true, true_and, if_true, if_false, ↓reduceIte, Bool.not_true, Bool.not_false, decide_true, decide_false, decide_eq_true_eq, List.all_cons, List.all_nil, Bool.and_true, Bool.true_and, Bool.and_self, wipeE, adPl, Int.reduceToNat, rng_5, abs_10, h, m0, m9]
    rw [if_pos (pow_ok' (by omega) (by omega))]
    simp only [e_iEn, e_iEnK, e_enD, e_iZq, e_iZqK, e_zq_ll, e_zq_tt, e_zq_lt, e_zq_tl, e_asgT, e_asgTK, e_asgO, e_call0, List.reverse_cons, List.reverse_nil, e_cmpV, e_cvH, e_cvB, e_cvO, e_cvZ, e_join, e_jK1, e_jK2, e_len_s, e_whK_f, e_whK_t, e_whS, restE, List.getD_cons_zero, List.getD_cons_succ, List.getD_nil, d_pow_6, d_pow_12, d_pow_18, d_pow_30, e_OE_bind_ok, e_OE_bind_exc, e_OE_bindT_ok, e_OE_bindT_exc, e_OE_bindA_ok, e_OE_bindA_exc, e_OE_bindS_ok, e_OE_bindS_exc, e_OE_bindI_ok, e_OE_bindI_exc, e_OE_bindG_ok, e_OE_bindG_exc, e_OT_bind_ok, e_OT_bind_exc, e_OT_bindE_ok, e_OT_bindE_exc, e_OT_bindS_ok, e_OT_bindS_exc, e_OA_bind_ok, e_OA_bind_exc, e_OA_bindE_ok, e_OA_bindE_exc, e_OA_bindI_ok, e_OA_bindI_exc, e_OI_bindE_ok, e_OI_bindE_exc, e_OI_bindS_ok, e_OI_bindS_exc, e_OG_bind_ok, e_OG_bind_exc, e_OG_bindE_ok, e_OG_bindE_exc, e_seq_nx, e_seq_ret, e_seq_brk, e_seq_cnt, e_seq_exc, e_var, e_varK_sh, e_varK_ow, e_mv, e_mvK_sh, e_mvK_ow, e_c, e_okO, e_op2, e_opK1, e_opK2, e_un, e_unK, e_and, e_or, e_not, e_tru, e_andK_t, e_andK_f, e_orK_t, e_orK_f, e_notK, e_truK, e_if, e_tand, e_tor, e_tnot, e_sif, e_ifK_t, e_ifK_f, e_sifK_t, e_sifK_f, e_tandK_t, e_tandK_f, e_torK_t, e_torK_f, e_tnotK, e_nil, e_cons, e_consK1, e_consK2, e_tup, e_lst, e_cb, e_tupK, e_lstK, e_cbK, e_chain, e_chK1, e_chK2, e_chK3, e_chB_t, e_chB_f, e_ixV, e_ixH, e_ixVK, e_ixE_own, e_ixE_sh, e_atO, e_ownAt, e_ownS_ow, e_ownS_io, e_ownS_lst, e_ownS_tup, e_ownS_str, e_ownS_int, e_lenV, e_lenK_own, e_lenK_sh, e_here_no, e_noIo_no, e_Own_no, e_here_sh, e_noIo_sh, e_Own_sh, e_here_ow, e_noIo_ow, e_Own_ow, e_here_io, e_noIo_io, e_Own_io, e_fz_sh, e_fz_ow, e_sv_sh, e_sv_ow, e_ret, e_retK, e_retN, e_expr, e_exprK, e_pass, e_break, e_cont, e_asg, e_asgK, e_asgB, e_sseq, e_set, e_setK1, e_setB, e_setK2, e_setO, e_setJ, e_nxO, e_setOwn, e_soK_ow, e_soK_io, e_app, e_appB, e_appK, e_appO, e_par, e_parA, e_parK, e_okI, e_iVal, e_iValK, e_items_lst, e_items_tup, e_items_str, e_iZp, e_iZpK, e_zp_l, e_zp_t, e_iRv, e_iRvK, e_rv_l, e_rv_t, e_iRg1, e_iRg1K, e_rg1, e_iRg2, e_iRg2K, e_rg2, e_for, e_forK, e_for_nil, e_for_cons, e_forG, e_forS_nx, e_forS_cnt, e_forS_brk, e_forS_ret, e_forS_exc, e_gVar, e_gvB, e_gTup, e_gTupW, e_gCons, e_gNil, d_add_i, d_add_s, d_add_l, d_add_t, d_mul_i, d_mul_s, d_mul_l, d_fdiv, d_mod, d_pow, d_neg, d_iI, d_ord_i, d_ord_s, d_eq_i, d_eq_s, d_ne_i, d_ne_s, d_len_l, d_len_t, d_abs, d_gcd, d_max2, d_min2, d_tup_l, d_tup_t, d_ix_l, d_ix_t, d_atR, at_0, at_1, at_2, ixn_0, ixn_1, ixn_2, e_run, e_fin_ret, e_fin_nx, e_fin_exc, e_outR, e_outX, e_out_none, e_out_some, e_ioS, e_arg_none, e_arg_nil, e_arg_0, e_arg_s, e_ioD, e_call, e_calK1, e_calK2, e_calO_ret, e_calO_exc, e_callP, e_cpK, e_cpD, e_cpC_s, e_cpC_x, e_cpC_o, e_cpS, e_cpX, e_gnil, e_gv, e_gvK1, e_gvK2, e_gs, e_gsB, e_gsK, e_go, e_goK, e_ads_nil, e_ads_cons, e_adC, e_adC2, e_adD_v, e_adD_s, e_adD_o, e_adO, e_pi, e_piK, e_sl, e_slK1, e_slK2, e_slK3, e_slO, e_part_n, e_part_i, d_slice_l, d_slice_t, e_sl3, e_s3K1, e_s3K2, e_s3K3, e_s3K4, e_s3O, e_lc, e_lcK, e_lcB, e_lcR, e_yes, e_okW2, e_okWS_no, e_okWS_sh, eq_self, log_7, List.length_cons, List.length_nil, List.map_cons, List.map_nil, List.cons_append, List.nil_append, List.replicate_succ, List.replicate_zero, List.append_nil, List.getElem?_cons_zero, List.getElem?_cons_succ, List.getElem?_nil, List.set_cons_zero, List.set_cons_succ, Option.bind_some, Option.bind_none, Option.isSome_some, Nat.reduceAdd, Nat.reduceSub, Nat.reduceLT, Nat.reduceLeDiff, Nat.reduceEqDiff, Int.reduceAdd, Int.reduceMul, Int.reduceNeg, Int.reducePow, Int.reduceLT, Int.reduceLE, and_self, and_true, true_and, if_true, if_false, ↓reduceIte, Bool.not_true, Bool.not_false, decide_true, decide_false, decide_eq_true_eq, List.all_cons, List.all_nil, Bool.and_true, Bool.true_and, Bool.and_self, wipeE, adPl, Int.reduceToNat, rng_5, abs_10, h, m0, m9]
    rw [if_pos (mul_ok (by omega) (by omega) (by omega) (by omega))]
    simp only [e_iEn, e_iEnK, e_enD, e_iZq, e_iZqK, e_zq_ll, e_zq_tt, e_zq_lt, e_zq_tl, e_asgT, e_asgTK, e_asgO, e_call0, List.reverse_cons, List.reverse_nil, e_cmpV, e_cvH, e_cvB, e_cvO, e_cvZ, e_join, e_jK1, e_jK2, e_len_s, e_whK_f, e_whK_t, e_whS, restE, List.getD_cons_zero, List.getD_cons_succ, List.getD_nil, d_pow_6, d_pow_12, d_pow_18, d_pow_30, e_OE_bind_ok, e_OE_bind_exc, e_OE_bindT_ok, e_OE_bindT_exc, e_OE_bindA_ok, e_OE_bindA_exc, e_OE_bindS_ok, e_OE_bindS_exc, e_OE_bindI_ok, e_OE_bindI_exc, e_OE_bindG_ok, e_OE_bindG_exc, e_OT_bind_ok, e_OT_bind_exc, e_OT_bindE_ok, e_OT_bindE_exc, e_OT_bindS_ok, e_OT_bindS_exc, e_OA_bind_ok, e_OA_bind_exc, e_OA_bindE_ok, e_OA_bindE_exc, e_OA_bindI_ok, e_OA_bindI_exc, e_OI_bindE_ok, e_OI_bindE_exc, e_OI_bindS_ok, e_OI_bindS_exc, e_OG_bind_ok, e_OG_bind_exc, e_OG_bindE_ok, e_OG_bindE_exc, e_seq_nx, e_seq_ret, e_seq_brk, e_seq_cnt, e_seq_exc, e_var, e_varK_sh, e_varK_ow, e_mv, e_mvK_sh, e_mvK_ow, e_c, e_okO, e_op2, e_opK1, e_opK2, e_un, e_unK, e_and, e_or, e_not, e_tru, e_andK_t, e_andK_f, e_orK_t, e_orK_f, e_notK, e_truK, e_if, e_tand, e_tor, e_tnot, e_sif, e_ifK_t, e_ifK_f, e_sifK_t, e_sifK_f, e_tandK_t, e_tandK_f, e_torK_t, e_torK_f, e_tnotK, e_nil, e_cons, e_consK1, e_consK2, e_tup, e_lst, e_cb, e_tupK, e_lstK, e_cbK, e_chain, e_chK1, e_chK2, e_chK3, e_chB_t, e_chB_f, e_ixV, e_ixH, e_ixVK, e_ixE_own, e_ixE_sh, e_atO, e_ownAt, e_ownS_ow, e_ownS_io, e_ownS_lst, e_ownS_tup, e_ownS_str, e_ownS_int, e_lenV, e_lenK_own, e_lenK_sh, e_here_no, e_noIo_no, e_Own_no, e_here_sh, e_noIo_sh, e_Own_sh, e_here_ow, e_noIo_ow, e_Own_ow, e_here_io, e_noIo_io, e_Own_io, e_fz_sh, e_fz_ow, e_sv_sh, e_sv_ow, e_ret, e_retK, e_retN, e_expr, e_exprK, e_pass, e_break, e_cont, e_asg, e_asgK, e_asgB, e_sseq, e_set, e_setK1, e_setB, e_setK2, e_setO, e_setJ, e_nxO, e_setOwn, e_soK_ow, e_soK_io, e_app, e_appB, e_appK, e_appO, e_par, e_parA, e_parK, e_okI, e_iVal, e_iValK, e_items_lst, e_items_tup, e_items_str, e_iZp, e_iZpK, e_zp_l, e_zp_t, e_iRv, e_iRvK, e_rv_l, e_rv_t, e_iRg1, e_iRg1K, e_rg1, e_iRg2, e_iRg2K, e_rg2, e_for, e_forK, e_for_nil, e_for_cons, e_forG, e_forS_nx, e_forS_cnt, e_forS_brk, e_forS_ret, e_forS_exc, e_gVar, e_gvB, e_gTup, e_gTupW, e_gCons, e_gNil, d_add_i, d_add_s, d_add_l, d_add_t, d_mul_i, d_mul_s, d_mul_l, d_fdiv, d_mod, d_pow, d_neg, d_iI, d_ord_i, d_ord_s, d_eq_i, d_eq_s, d_ne_i, d_ne_s, d_len_l, d_len_t, d_abs, d_gcd, d_max2, d_min2, d_tup_l, d_tup_t, d_ix_l, d_ix_t, d_atR, at_0, at_1, at_2, ixn_0, ixn_1, ixn_2, e_run, e_fin_ret, e_fin_nx, e_fin_exc, e_outR, e_outX, e_out_none, e_out_some, e_ioS, e_arg_none, e_arg_nil, e_arg_0, e_arg_s, e_ioD, e_call, e_calK1, e_calK2, e_calO_ret, e_calO_exc, e_callP, e_cpK, e_cpD, e_cpC_s, e_cpC_x, e_cpC_o, e_cpS, e_cpX, e_gnil, e_gv, e_gvK1, e_gvK2, e_gs, e_gsB, e_gsK, e_go, e_goK, e_ads_nil, e_ads_cons, e_adC, e_adC2, e_adD_v, e_adD_s, e_adD_o, e_adO, e_pi, e_piK, e_sl, e_slK1, e_slK2, e_slK3, e_slO, e_part_n, e_part_i, d_slice_l, d_slice_t, e_sl3, e_s3K1, e_s3K2, e_s3K3, e_s3K4, e_s3O, e_lc, e_lcK, e_lcB, e_lcR, e_yes, e_okW2, e_okWS_no, e_okWS_sh, eq_self, log_7, List.length_cons, List.length_nil, List.map_cons, List.map_nil, List.cons_append, List.nil_append, List.replicate_succ, List.replicate_zero, List.append_nil, List.getElem?_cons_zero, List.getElem?_cons_succ, List.getElem?_nil, List.set_cons_zero, List.set_cons_succ, Option.bind_some, Option.bind_none, Option.isSome_some, Nat.reduceAdd, Nat.reduceSub, Nat.reduceLT, Nat.reduceLeDiff, Nat.reduceEqDiff, Int.reduceAdd, Int.reduceMul, Int.reduceNeg, Int.reducePow, Int.reduceLT, Int.reduceLE, and_self, and_true, true_and, if_true, if_false, ↓reduceIte, Bool.not_true, Bool.not_false, decide_true, decide_false, decide_eq_true_eq, List.all_cons, List.all_nil, Bool.and_true, Bool.true_and, Bool.and_self, wipeE, adPl, Int.reduceToNat, rng_5, abs_10, h, m0, m9]
    rw [if_pos (mul_ok (by omega) (by omega) (by omega) (by omega))]
    simp only [e_iEn, e_iEnK, e_enD, e_iZq, e_iZqK, e_zq_ll, e_zq_tt, e_zq_lt, e_zq_tl, e_asgT, e_asgTK, e_asgO, e_call0, List.reverse_cons, List.reverse_nil, e_cmpV, e_cvH, e_cvB, e_cvO, e_cvZ, e_join, e_jK1, e_jK2, e_len_s, e_whK_f, e_whK_t, e_whS, restE, List.getD_cons_zero, List.getD_cons_succ, List.getD_nil, d_pow_6, d_pow_12, d_pow_18, d_pow_30, e_OE_bind_ok, e_OE_bind_exc, e_OE_bindT_ok, e_OE_bindT_exc, e_OE_bindA_ok, e_OE_bindA_exc, e_OE_bindS_ok, e_OE_bindS_exc, e_OE_bindI_ok, e_OE_bindI_exc, e_OE_bindG_ok, e_OE_bindG_exc, e_OT_bind_ok, e_OT_bind_exc, e_OT_bindE_ok, e_OT_bindE_exc, e_OT_bindS_ok, e_OT_bindS_exc, e_OA_bind_ok, e_OA_bind_exc, e_OA_bindE_ok, e_OA_bindE_exc, e_OA_bindI_ok, e_OA_bindI_exc, e_OI_bindE_ok, e_OI_bindE_exc, e_OI_bindS_ok, e_OI_bindS_exc, e_OG_bind_ok, e_OG_bind_exc, e_OG_bindE_ok, e_OG_bindE_exc, e_seq_nx, e_seq_ret, e_seq_brk, e_seq_cnt, e_seq_exc, e_var, e_varK_sh, e_varK_ow, e_mv, e_mvK_sh, e_mvK_ow, e_c, e_okO, e_op2, e_opK1, e_opK2, e_un, e_unK, e_and, e_or, e_not, e_tru, e_andK_t, e_andK_f, e_orK_t, e_orK_f, e_notK, e_truK, e_if, e_tand, e_tor, e_tnot, e_sif, e_ifK_t, e_ifK_f, e_sifK_t, e_sifK_f, e_tandK_t, e_tandK_f, e_torK_t, e_torK_f, e_tnotK, e_nil, e_cons, e_consK1, e_consK2, e_tup, e_lst, e_cb, e_tupK, e_lstK, e_cbK, e_chain, e_chK1, e_chK2, e_chK3, e_chB_t, e_chB_f, e_ixV, e_ixH, e_ixVK, e_ixE_own, e_ixE_sh, e_atO, e_ownAt, e_ownS_ow, e_ownS_io, e_ownS_lst, e_ownS_tup, e_ownS_str, e_ownS_int, e_lenV, e_lenK_own, e_lenK_sh, e_here_no, e_noIo_no, e_Own_no, e_here_sh, e_noIo_sh, e_Own_sh, e_here_ow, e_noIo_ow, e_Own_ow, e_here_io, e_noIo_io, e_Own_io, e_fz_sh, e_fz_ow, e_sv_sh, e_sv_ow, e_ret, e_retK, e_retN, e_expr, e_exprK, e_pass, e_break, e_cont, e_asg, e_asgK, e_asgB, e_sseq, e_set, e_setK1, e_setB, e_setK2, e_setO, e_setJ, e_nxO, e_setOwn, e_soK_ow, e_soK_io, e_app, e_appB, e_appK, e_appO, e_par, e_parA, e_parK, e_okI, e_iVal, e_iValK, e_items_lst, e_items_tup, e_items_str, e_iZp, e_iZpK, e_zp_l, e_zp_t, e_iRv, e_iRvK, e_rv_l, e_rv_t, e_iRg1, e_iRg1K, e_rg1, e_iRg2, e_iRg2K, e_rg2, e_for, e_forK, e_for_nil, e_for_cons, e_forG, e_forS_nx, e_forS_cnt, e_forS_brk, e_forS_ret, e_forS_exc, e_gVar, e_gvB, e_gTup, e_gTupW, e_gCons, e_gNil, d_add_i, d_add_s, d_add_l, d_add_t, d_mul_i, d_mul_s, d_mul_l, d_fdiv, d_mod, d_pow, d_neg, d_iI, d_ord_i, d_ord_s, d_eq_i, d_eq_s, d_ne_i, d_ne_s, d_len_l, d_len_t, d_abs, d_gcd, d_max2, d_min2, d_tup_l, d_tup_t, d_ix_l, d_ix_t, d_atR, at_0, at_1, at_2, ixn_0, ixn_1, ixn_2, e_run, e_fin_ret, e_fin_nx, e_fin_exc, e_outR, e_outX, e_out_none, e_out_some, e_ioS, e_arg_none, e_arg_nil, e_arg_0, e_arg_s, e_ioD, e_call, e_calK1, e_calK2, e_calO_ret, e_calO_exc, e_callP, e_cpK, e_cpD, e_cpC_s, e_cpC_x, e_cpC_o, e_cpS, e_cpX, e_gnil, e_gv, e_gvK1, e_gvK2, e_gs, e_gsB, e_gsK, e_go, e_goK, e_ads_nil, e_ads_cons, e_adC, e_adC2, e_adD_v, e_adD_s, e_adD_o, e_adO, e_pi, e_piK, e_sl, e_slK1, e_slK2, e_slK3, e_slO, e_part_n, e_part_i, d_slice_l, d_slice_t, e_sl3, e_s3K1, e_s3K2, e_s3K3, e_s3K4, e_s3O, e_lc, e_lcK, e_lcB, e_lcR, e_yes, e_okW2, e_okWS_no, e_okWS_sh, eq_self, log_7, List.length_cons, List.length_nil, List.map_cons, List.map_nil, List.cons_append, List.nil_append, List.replicate_succ, List.replicate_zero, List.append_nil, List.getElem?_cons_zero, List.getElem?_cons_succ, List.getElem?_nil, List.set_cons_zero, List.set_cons_succ, Option.bind_some, Option.bind_none, Option.isSome_some, Nat.reduceAdd, Nat.reduceSub, Nat.reduceLT, Nat.reduceLeDiff, Nat.reduceEqDiff, Int.reduceAdd, Int.reduceMul, Int.reduceNeg, Int.reducePow, Int.reduceLT, Int.reduceLE, and_self, and_true, true_and, if_true, if_false, ↓reduceIte, Bool.not_true, Bool.not_false, decide_true, decide_false, decide_eq_true_eq, List.all_cons, List.all_nil, Bool.and_true, Bool.true_and, Bool.and_self, wipeE, adPl, Int.reduceToNat, rng_5, abs_10, h, m0, m9]
    rw [if_pos (pow_ok' (by omega) (by omega))]
    simp only [e_iEn, e_iEnK, e_enD, e_iZq, e_iZqK, e_zq_ll, e_zq_tt, e_zq_lt, e_zq_tl, e_asgT, e_asgTK, e_asgO, e_call0, List.reverse_cons, List.reverse_nil, e_cmpV, e_cvH, e_cvB, e_cvO, e_cvZ, e_join, e_jK1, e_jK2, e_len_s, e_whK_f, e_whK_t, e_whS, restE, List.getD_cons_zero, List.getD_cons_succ, List.getD_nil, d_pow_6, d_pow_12, d_pow_18, d_pow_30, e_OE_bind_ok, e_OE_bind_exc, e_OE_bindT_ok, e_OE_bindT_exc, e_OE_bindA_ok, e_OE_bindA_exc, e_OE_bindS_ok, e_OE_bindS_exc, e_OE_bindI_ok, e_OE_bindI_exc, e_OE_bindG_ok, e_OE_bindG_exc, e_OT_bind_ok, e_OT_bind_exc, e_OT_bindE_ok, e_OT_bindE_exc, e_OT_bindS_ok, e_OT_bindS_exc, e_OA_bind_ok, e_OA_bind_exc, e_OA_bindE_ok, e_OA_bindE_exc, e_OA_bindI_ok, e_OA_bindI_exc, e_OI_bindE_ok, e_OI_bindE_exc, e_OI_bindS_ok, e_OI_bindS_exc, e_OG_bind_ok, e_OG_bind_exc, e_OG_bindE_ok, e_OG_bindE_exc, e_seq_nx, e_seq_ret, e_seq_brk, e_seq_cnt, e_seq_exc, e_var, e_varK_sh, e_varK_ow, e_mv, e_mvK_sh, e_mvK_ow, e_c, e_okO, e_op2, e_opK1, e_opK2, e_un, e_unK, e_and, e_or, e_not, e_tru, e_andK_t, e_andK_f, e_orK_t, e_orK_f, e_notK, e_truK, e_if, e_tand, e_tor, e_tnot, e_sif, e_ifK_t, e_ifK_f, e_sifK_t, e_sifK_f, e_tandK_t, e_tandK_f, e_torK_t, e_torK_f, e_tnotK, e_nil, e_cons, e_consK1, e_consK2, e_tup, e_lst, e_cb, e_tupK, e_lstK, e_cbK, e_chain, e_chK1, e_chK2, e_chK3, e_chB_t, e_chB_f, e_ixV, e_ixH, e_ixVK, e_ixE_own, e_ixE_sh, e_atO, e_ownAt, e_ownS_ow, e_ownS_io, e_ownS_lst, e_ownS_tup, e_ownS_str, e_ownS_int, e_lenV, e_lenK_own, e_lenK_sh, e_here_no, e_noIo_no, e_Own_no, e_here_sh, e_noIo_sh, e_Own_sh, e_here_ow, e_noIo_ow, e_Own_ow, e_here_io, e_noIo_io, e_Own_io, e_fz_sh, e_fz_ow, e_sv_sh, e_sv_ow, e_ret, e_retK, e_retN, e_expr, e_exprK, e_pass, e_break, e_cont, e_asg, e_asgK, e_asgB, e_sseq, e_set, e_setK1, e_setB, e_setK2, e_setO, e_setJ, e_nxO, e_setOwn, e_soK_ow, e_soK_io, e_app, e_appB, e_appK, e_appO, e_par, e_parA, e_parK, e_okI, e_iVal, e_iValK, e_items_lst, e_items_tup, e_items_str, e_iZp, e_iZpK, e_zp_l, e_zp_t, e_iRv, e_iRvK, e_rv_l, e_rv_t, e_iRg1, e_iRg1K, e_rg1, e_iRg2, e_iRg2K, e_rg2, e_for, e_forK, e_for_nil, e_for_cons, e_forG, e_forS_nx, e_forS_cnt, e_forS_brk, e_forS_ret, e_forS_exc, e_gVar, e_gvB, e_gTup, e_gTupW, e_gCons, e_gNil, d_add_i, d_add_s, d_add_l, d_add_t, d_mul_i, d_mul_s, d_mul_l, d_fdiv, d_mod, d_pow, d_neg, d_iI, d_ord_i, d_ord_s, d_eq_i, d_eq_s, d_ne_i, d_ne_s, d_len_l, d_len_t, d_abs, d_gcd, d_max2, d_min2, d_tup_l, d_tup_t, d_ix_l, d_ix_t, d_atR, at_0, at_1, at_2, ixn_0, ixn_1, ixn_2, e_run, e_fin_ret, e_fin_nx, e_fin_exc, e_outR, e_outX, e_out_none, e_out_some, e_ioS, e_arg_none, e_arg_nil, e_arg_0, e_arg_s, e_ioD, e_call, e_calK1, e_calK2, e_calO_ret, e_calO_exc, e_callP, e_cpK, e_cpD, e_cpC_s, e_cpC_x, e_cpC_o, e_cpS, e_cpX, e_gnil, e_gv, e_gvK1, e_gvK2, e_gs, e_gsB, e_gsK, e_go, e_goK, e_ads_nil, e_ads_cons, e_adC, e_adC2, e_adD_v, e_adD_s, e_adD_o, e_adO, e_pi, e_piK, e_sl, e_slK1, e_slK2, e_slK3, e_slO, e_part_n, e_part_i, d_slice_l, d_slice_t, e_sl3, e_s3K1, e_s3K2, e_s3K3, e_s3K4, e_s3O, e_lc, e_lcK, e_lcB, e_lcR, e_yes, e_okW2, e_okWS_no, e_okWS_sh, eq_self, log_7, List.length_cons, List.length_nil, List.map_cons, List.map_nil, List.cons_append, List.nil_append, List.replicate_succ, List.replicate_zero, List.append_nil, List.getElem?_cons_zero, List.getElem?_cons_succ, List.getElem?_nil, List.set_cons_zero, List.set_cons_succ, Option.bind_some, Option.bind_none, Option.isSome_some, Nat.reduceAdd, Nat.reduceSub, Nat.reduceLT, Nat.reduceLeDiff, Nat.reduceEqDiff, Int.reduceAdd, Int.reduceMul, Int.reduceNeg, Int.reducePow, Int.reduceLT, Int.reduceLE, and_self, and_true, true_and, if_true, if_false, ↓reduceIte, Bool.not_true, Bool.not_false, decide_true, decide_false, decide_eq_true_eq, List.all_cons, List.all_nil, Bool.and_true, Bool.true_and, Bool.and_self, wipeE, adPl, Int.reduceToNat, rng_5, abs_10, h, m0, m9]
    rw [if_pos (mul_ok (by omega) (by omega) (by omega) (by omega))]
    simp only [e_iEn, e_iEnK, e_enD, e_iZq, e_iZqK, e_zq_ll, e_zq_tt, e_zq_lt, e_zq_tl, e_asgT, e_asgTK, e_asgO, e_call0, List.reverse_cons, List.reverse_nil, e_cmpV, e_cvH, e_cvB, e_cvO, e_cvZ, e_join, e_jK1, e_jK2, e_len_s, e_whK_f, e_whK_t, e_whS, restE, List.getD_cons_zero, List.getD_cons_succ, List.getD_nil, d_pow_6, d_pow_12, d_pow_18, d_pow_30, e_OE_bind_ok, e_OE_bind_exc, e_OE_bindT_ok, e_OE_bindT_exc, e_OE_bindA_ok, e_OE_bindA_exc, e_OE_bindS_ok, e_OE_bindS_exc, e_OE_bindI_ok, e_OE_bindI_exc, e_OE_bindG_ok, e_OE_bindG_exc, e_OT_bind_ok, e_OT_bind_exc, e_OT_bindE_ok, e_OT_bindE_exc, e_OT_bindS_ok, e_OT_bindS_exc, e_OA_bind_ok, e_OA_bind_exc, e_OA_bindE_ok, e_OA_bindE_exc, e_OA_bindI_ok, e_OA_bindI_exc, e_OI_bindE_ok, e_OI_bindE_exc, e_OI_bindS_ok, e_OI_bindS_exc, e_OG_bind_ok, e_OG_bind_exc, e_OG_bindE_ok, e_OG_bindE_exc, e_seq_nx, e_seq_ret, e_seq_brk, e_seq_cnt, e_seq_exc, e_var, e_varK_sh, e_varK_ow, e_mv, e_mvK_sh, e_mvK_ow, e_c, e_okO, e_op2, e_opK1, e_opK2, e_un, e_unK, e_and, e_or, e_not, e_tru, e_andK_t, e_andK_f, e_orK_t, e_orK_f, e_notK, e_truK, e_if, e_tand, e_tor, e_tnot, e_sif, e_ifK_t, e_ifK_f, e_sifK_t, e_sifK_f, e_tandK_t, e_tandK_f, e_torK_t, e_torK_f, e_tnotK, e_nil, e_cons, e_consK1, e_consK2, e_tup, e_lst, e_cb, e_tupK, e_lstK, e_cbK, e_chain, e_chK1, e_chK2, e_chK3, e_chB_t, e_chB_f, e_ixV, e_ixH, e_ixVK, e_ixE_own, e_ixE_sh, e_atO, e_ownAt, e_ownS_ow, e_ownS_io, e_ownS_lst, e_ownS_tup, e_ownS_str, e_ownS_int, e_lenV, e_lenK_own, e_lenK_sh, e_here_no, e_noIo_no, e_Own_no, e_here_sh, e_noIo_sh, e_Own_sh, e_here_ow, e_noIo_ow, e_Own_ow, e_here_io, e_noIo_io, e_Own_io, e_fz_sh, e_fz_ow, e_sv_sh, e_sv_ow, e_ret, e_retK, e_retN, e_expr, e_exprK, e_pass, e_break, e_cont, e_asg, e_asgK, e_asgB, e_sseq, e_set, e_setK1, e_setB, e_setK2, e_setO, e_setJ, e_nxO, e_setOwn, e_soK_ow, e_soK_io, e_app, e_appB, e_appK, e_appO, e_par, e_parA, e_parK, e_okI, e_iVal, e_iValK, e_items_lst, e_items_tup, e_items_str, e_iZp, e_iZpK, e_zp_l, e_zp_t, e_iRv, e_iRvK, e_rv_l, e_rv_t, e_iRg1, e_iRg1K, e_rg1, e_iRg2, e_iRg2K, e_rg2, e_for, e_forK, e_for_nil, e_for_cons, e_forG, e_forS_nx, e_forS_cnt, e_forS_brk, e_forS_ret, e_forS_exc, e_gVar, e_gvB, e_gTup, e_gTupW, e_gCons, e_gNil, d_add_i, d_add_s, d_add_l, d_add_t, d_mul_i, d_mul_s, d_mul_l, d_fdiv, d_mod, d_pow, d_neg, d_iI, d_ord_i, d_ord_s, d_eq_i, d_eq_s, d_ne_i, d_ne_s, d_len_l, d_len_t, d_abs, d_gcd, d_max2, d_min2, d_tup_l, d_tup_t, d_ix_l, d_ix_t, d_atR, at_0, at_1, at_2, ixn_0, ixn_1, ixn_2, e_run, e_fin_ret, e_fin_nx, e_fin_exc, e_outR, e_outX, e_out_none, e_out_some, e_ioS, e_arg_none, e_arg_nil, e_arg_0, e_arg_s, e_ioD, e_call, e_calK1, e_calK2, e_calO_ret, e_calO_exc, e_callP, e_cpK, e_cpD, e_cpC_s, e_cpC_x, e_cpC_o, e_cpS, e_cpX, e_gnil, e_gv, e_gvK1, e_gvK2, e_gs, e_gsB, e_gsK, e_go, e_goK, e_ads_nil, e_ads_cons, e_adC, e_adC2, e_adD_v, e_adD_s, e_adD_o, e_adO, e_pi, e_piK, e_sl, e_slK1, e_slK2, e_slK3, e_slO, e_part_n, e_part_i, d_slice_l, d_slice_t, e_sl3, e_s3K1, e_s3K2, e_s3K3, e_s3K4, e_s3O, e_lc, e_lcK, e_lcB, e_lcR, e_yes, e_okW2, e_okWS_no, e_okWS_sh, eq_self, log_7, List.length_cons, List.length_nil, List.map_cons, List.map_nil, List.cons_append, List.nil_append, List.replicate_succ, List.replicate_zero, List.append_nil, List.getElem?_cons_zero, List.getElem?_cons_succ, List.getElem?_nil, List.set_cons_zero, List.set_cons_succ, Option.bind_some, Option.bind_none, Option.isSome_some, Nat.reduceAdd, Nat.reduceSub, Nat.reduceLT, Nat.reduceLeDiff, Nat.reduceEqDiff, Int.reduceAdd, Int.reduceMul, Int.reduceNeg, Int.reducePow, Int.reduceLT, Int.reduceLE, and_self, and_true, true_and, if_true, if_false, ↓reduceIte, Bool.not_true, Bool.not_false, decide_true, decide_false, decide_eq_true_eq, List.all_cons, List.all_nil, Bool.and_true, Bool.true_and, Bool.and_self, wipeE, adPl, Int.reduceToNat, rng_5, abs_10, h, m0, m9, log_64]
    exact ⟨_, rfl⟩
/-- the pool: three numbers, the last one at most n -/
def Pk (n : Int) (p : List D) : Prop := ∃ a b c : Int, p = [.int a, .int b, .int c] ∧ 0 ≤ a ∧ 0 ≤ b ∧ b < 1000000007 ∧ 0 ≤ c ∧ c ≤ n
theorem Pk.mono {n m : Int} {p : List D} (h : Pk n p) (l : n ≤ m) : Pk m p := by
  obtain ⟨a, b, c, rfl, h1, h2, h3, h4, h5⟩ := h
  exact ⟨a, b, c, rfl, h1, h2, h3, h4, by omega⟩
theorem take_p {n m : Int} {p : List D} (h : Pk n p) (hn : n < 10 ^ 6) (hm : 1 ≤ m) (hm2 : m ≤ 10 ^ 60) : ∃ v p', f__law_take [.lst p, .int m] = .ret (.sh (.int v)) p' ∧ 0 ≤ v ∧ v < m ∧ Pk (n + 1) p' := by
  obtain ⟨a, b, c, rfl, h1, h2, h3, h4, h5⟩ := h
  obtain ⟨v, a', c', e, k1, k2, k3, k4, k5⟩ := take_ok a b c m h1 h2 h3 h4 (by omega) hm hm2
  exact ⟨v, _, e, k1, k2, a', b, c', rfl, k3, h2, h3, k4, by omega⟩
theorem great_p {n : Int} {p : List D} (h : Pk n p) (hn : n + 10 < 10 ^ 6) : ∃ v p', f__law_great [.lst p] = .ret (.sh (.int v)) p' ∧ 0 ≤ v ∧ v < 10 ^ 30 ∧ Pk (n + 5) p' := by
  obtain ⟨v1, p1, e1, a1, b1, h1⟩ := take_p h (m := 1000000) (by omega) (by omega) (by omega)
  obtain ⟨v2, p2, e2, a2, b2, h2⟩ := take_p h1 (m := 1000000) (by omega) (by omega) (by omega)
  obtain ⟨v3, p3, e3, a3, b3, h3⟩ := take_p h2 (m := 1000000) (by omega) (by omega) (by omega)
  obtain ⟨v4, p4, e4, a4, b4, h4⟩ := take_p h3 (m := 1000000) (by omega) (by omega) (by omega)
  obtain ⟨v5, p5, e5, a5, b5, h5⟩ := take_p h4 (m := 1000000) (by omega) (by omega) (by omega)
  refine ⟨((((0 * 1000000 + v1) * 1000000 + v2) * 1000000 + v3) * 1000000 + v4) * 1000000 + v5, p5, ?_, by omega, by omega, h5.mono (by omega)⟩
  simp only [f__law_great, F__law_great, e_iEn, e_iEnK, e_enD, e_iZq, e_iZqK, e_zq_ll, e_zq_tt, e_zq_lt, e_zq_tl, e_asgT, e_asgTK, e_asgO, e_call0, List.reverse_cons, List.reverse_nil, e_cmpV, e_cvH, e_cvB, e_cvO, e_cvZ, e_join, e_jK1, e_jK2, e_len_s, e_whK_f, e_whK_t, e_whS, restE, List.getD_cons_zero, List.getD_cons_succ, List.getD_nil, d_pow_6, d_pow_12, d_pow_18, d_pow_30, e_OE_bind_ok, e_OE_bind_exc, e_OE_bindT_ok, e_OE_bindT_exc, e_OE_bindA_ok, e_OE_bindA_exc, e_OE_bindS_ok, e_OE_bindS_exc, e_OE_bindI_ok, e_OE_bindI_exc, e_OE_bindG_ok, e_OE_bindG_exc, e_OT_bind_ok, e_OT_bind_exc, e_OT_bindE_ok, e_OT_bindE_exc, e_OT_bindS_ok, e_OT_bindS_exc, e_OA_bind_ok, e_OA_bind_exc, e_OA_bindE_ok, e_OA_bindE_exc, e_OA_bindI_ok, e_OA_bindI_exc, e_OI_bindE_ok, e_OI_bindE_exc, e_OI_bindS_ok, e_OI_bindS_exc, e_OG_bind_ok, e_OG_bind_exc, e_OG_bindE_ok, e_OG_bindE_exc, e_seq_nx, e_seq_ret, e_seq_brk, e_seq_cnt, e_seq_exc, e_var, e_varK_sh, e_varK_ow, e_mv, e_mvK_sh, e_mvK_ow, e_c, e_okO, e_op2, e_opK1, e_opK2, e_un, e_unK, e_and, e_or, e_not, e_tru, e_andK_t, e_andK_f, e_orK_t, e_orK_f, e_notK, e_truK, e_if, e_tand, e_tor, e_tnot, e_sif, e_ifK_t, e_ifK_f, e_sifK_t, e_sifK_f, e_tandK_t, e_tandK_f, e_torK_t, e_torK_f, e_tnotK, e_nil, e_cons, e_consK1, e_consK2, e_tup, e_lst, e_cb, e_tupK, e_lstK, e_cbK, e_chain, e_chK1, e_chK2, e_chK3, e_chB_t, e_chB_f, e_ixV, e_ixH, e_ixVK, e_ixE_own, e_ixE_sh, e_atO, e_ownAt, e_ownS_ow, e_ownS_io, e_ownS_lst, e_ownS_tup, e_ownS_str, e_ownS_int, e_lenV, e_lenK_own, e_lenK_sh, e_here_no, e_noIo_no, e_Own_no, e_here_sh, e_noIo_sh, e_Own_sh, e_here_ow, e_noIo_ow, e_Own_ow, e_here_io, e_noIo_io, e_Own_io, e_fz_sh, e_fz_ow, e_sv_sh, e_sv_ow, e_ret, e_retK, e_retN, e_expr, e_exprK, e_pass, e_break, e_cont, e_asg, e_asgK, e_asgB, e_sseq, e_set, e_setK1, e_setB, e_setK2, e_setO, e_setJ, e_nxO, e_setOwn, e_soK_ow, e_soK_io, e_app, e_appB, e_appK, e_appO, e_par, e_parA, e_parK, e_okI, e_iVal, e_iValK, e_items_lst, e_items_tup, e_items_str, e_iZp, e_iZpK, e_zp_l, e_zp_t, e_iRv, e_iRvK, e_rv_l, e_rv_t, e_iRg1, e_iRg1K, e_rg1, e_iRg2, e_iRg2K, e_rg2, e_for, e_forK, e_for_nil, e_for_cons, e_forG, e_forS_nx, e_forS_cnt, e_forS_brk, e_forS_ret, e_forS_exc, e_gVar, e_gvB, e_gTup, e_gTupW, e_gCons, e_gNil, d_add_i, d_add_s, d_add_l, d_add_t, d_mul_i, d_mul_s, d_mul_l, d_fdiv, d_mod, d_pow, d_neg, d_iI, d_ord_i, d_ord_s, d_eq_i, d_eq_s, d_ne_i, d_ne_s, d_len_l, d_len_t, d_abs, d_gcd, d_max2, d_min2, d_tup_l, d_tup_t, d_ix_l, d_ix_t, d_atR, at_0, at_1, at_2, ixn_0, ixn_1, ixn_2, e_run, e_fin_ret, e_fin_nx, e_fin_exc, e_outR, e_outX, e_out_none, e_out_some, e_ioS, e_arg_none, e_arg_nil, e_arg_0, e_arg_s, e_ioD, e_call, e_calK1, e_calK2, e_calO_ret, e_calO_exc, e_callP, e_cpK, e_cpD, e_cpC_s, e_cpC_x, e_cpC_o, e_cpS, e_cpX, e_gnil, e_gv, e_gvK1, e_gvK2, e_gs, e_gsB, e_gsK, e_go, e_goK, e_ads_nil, e_ads_cons, e_adC, e_adC2, e_adD_v, e_adD_s, e_adD_o, e_adO, e_pi, e_piK, e_sl, e_slK1, e_slK2, e_slK3, e_slO, e_part_n, e_part_i, d_slice_l, d_slice_t, e_sl3, e_s3K1, e_s3K2, e_s3K3, e_s3K4, e_s3O, e_lc, e_lcK, e_lcB, e_lcR, e_yes, e_okW2, e_okWS_no, e_okWS_sh, eq_self, log_7, List.length_cons, List.length_nil, List.map_cons, List.map_nil, List.cons_append, List.nil_append, List.replicate_succ, List.replicate_zero, List.append_nil, List.getElem?_cons_zero, List.getElem?_cons_succ, List.getElem?_nil, List.set_cons_zero, List.set_cons_succ, Option.bind_some, Option.bind_none, Option.isSome_some, Nat.reduceAdd, Nat.reduceSub, Nat.reduceLT, Nat.reduceLeDiff, Nat.reduceEqDiff, Int.reduceAdd, Int.reduceMul, Int.reduceNeg, Int.reducePow, Int.reduceLT, Int.reduceLE, and_self, and_true, true_and, if_true, if_false, ↓reduceIte, Bool.not_true, Bool.not_false, decide_true, decide_false, decide_eq_true_eq, List.all_cons, List.all_nil, Bool.and_true, Bool.true_and, Bool.and_self, wipeE, adPl, Int.reduceToNat, rng_5, abs_10]
  rw [if_pos (mul_ok (by omega) (by omega) (by omega) (by omega))]
  simp only [e_iEn, e_iEnK, e_enD, e_iZq, e_iZqK, e_zq_ll, e_zq_tt, e_zq_lt, e_zq_tl, e_asgT, e_asgTK, e_asgO, e_call0, List.reverse_cons, List.reverse_nil, e_cmpV, e_cvH, e_cvB, e_cvO, e_cvZ, e_join, e_jK1, e_jK2, e_len_s, e_whK_f, e_whK_t, e_whS, restE, List.getD_cons_zero, List.getD_cons_succ, List.getD_nil, d_pow_6, d_pow_12, d_pow_18, d_pow_30, e_OE_bind_ok, e_OE_bind_exc, e_OE_bindT_ok, e_OE_bindT_exc, e_OE_bindA_ok, e_OE_bindA_exc, e_OE_bindS_ok, e_OE_bindS_exc, e_OE_bindI_ok, e_OE_bindI_exc, e_OE_bindG_ok, e_OE_bindG_exc, e_OT_bind_ok, e_OT_bind_exc, e_OT_bindE_ok, e_OT_bindE_exc, e_OT_bindS_ok, e_OT_bindS_exc, e_OA_bind_ok, e_OA_bind_exc, e_OA_bindE_ok, e_OA_bindE_exc, e_OA_bindI_ok, e_OA_bindI_exc, e_OI_bindE_ok, e_OI_bindE_exc, e_OI_bindS_ok, e_OI_bindS_exc, e_OG_bind_ok, e_OG_bind_exc, e_OG_bindE_ok, e_OG_bindE_exc, e_seq_nx, e_seq_ret, e_seq_brk, e_seq_cnt, e_seq_exc, e_var, e_varK_sh, e_varK_ow, e_mv, e_mvK_sh, e_mvK_ow, e_c, e_okO, e_op2, e_opK1, e_opK2, e_un, e_unK, e_and, e_or, e_not, e_tru, e_andK_t, e_andK_f, e_orK_t, e_orK_f, e_notK, e_truK, e_if, e_tand, e_tor, e_tnot, e_sif, e_ifK_t, e_ifK_f, e_sifK_t, e_sifK_f, e_tandK_t, e_tandK_f, e_torK_t, e_torK_f, e_tnotK, e_nil, e_cons, e_consK1, e_consK2, e_tup, e_lst, e_cb, e_tupK, e_lstK, e_cbK, e_chain, e_chK1, e_chK2, e_chK3, e_chB_t, e_chB_f, e_ixV, e_ixH, e_ixVK, e_ixE_own, e_ixE_sh, e_atO, e_ownAt, e_ownS_ow, e_ownS_io, e_ownS_lst, e_ownS_tup, e_ownS_str, e_ownS_int, e_lenV, e_lenK_own, e_lenK_sh, e_here_no, e_noIo_no, e_Own_no, e_here_sh, e_noIo_sh, e_Own_sh, e_here_ow, e_noIo_ow, e_Own_ow, e_here_io, e_noIo_io, e_Own_io, e_fz_sh, e_fz_ow, e_sv_sh, e_sv_ow, e_ret, e_retK, e_retN, e_expr, e_exprK, e_pass, e_break, e_cont, e_asg, e_asgK, e_asgB, e_sseq, e_set, e_setK1, e_setB, e_setK2, e_setO, e_setJ, e_nxO, e_setOwn, e_soK_ow, e_soK_io, e_app, e_appB, e_appK, e_appO, e_par, e_parA, e_parK, e_okI, e_iVal, e_iValK, e_items_lst, e_items_tup, e_items_str, e_iZp, e_iZpK, e_zp_l, e_zp_t, e_iRv, e_iRvK, e_rv_l, e_rv_t, e_iRg1, e_iRg1K, e_rg1, e_iRg2, e_iRg2K, e_rg2, e_for, e_forK, e_for_nil, e_for_cons, e_forG, e_forS_nx, e_forS_cnt, e_forS_brk, e_forS_ret, e_forS_exc, e_gVar, e_gvB, e_gTup, e_gTupW, e_gCons, e_gNil, d_add_i, d_add_s, d_add_l, d_add_t, d_mul_i, d_mul_s, d_mul_l, d_fdiv, d_mod, d_pow, d_neg, d_iI, d_ord_i, d_ord_s, d_eq_i, d_eq_s, d_ne_i, d_ne_s, d_len_l, d_len_t, d_abs, d_gcd, d_max2, d_min2, d_tup_l, d_tup_t, d_ix_l, d_ix_t, d_atR, at_0, at_1, at_2, ixn_0, ixn_1, ixn_2, e_run, e_fin_ret, e_fin_nx, e_fin_exc, e_outR, e_outX, e_out_none, e_out_some, e_ioS, e_arg_none, e_arg_nil, e_arg_0, e_arg_s, e_ioD, e_call, e_calK1, e_calK2, e_calO_ret, e_calO_exc, e_callP, e_cpK, e_cpD, e_cpC_s, e_cpC_x, e_cpC_o, e_cpS, e_cpX, e_gnil, e_gv, e_gvK1, e_gvK2, e_gs, e_gsB, e_gsK, e_go, e_goK, e_ads_nil, e_ads_cons, e_adC, e_adC2, e_adD_v, e_adD_s, e_adD_o, e_adO, e_pi, e_piK, e_sl, e_slK1, e_slK2, e_slK3, e_slO, e_part_n, e_part_i, d_slice_l, d_slice_t, e_sl3, e_s3K1, e_s3K2, e_s3K3, e_s3K4, e_s3O, e_lc, e_lcK, e_lcB, e_lcR, e_yes, e_okW2, e_okWS_no, e_okWS_sh, eq_self, log_7, List.length_cons, List.length_nil, List.map_cons, List.map_nil, List.cons_append, List.nil_append, List.replicate_succ, List.replicate_zero, List.append_nil, List.getElem?_cons_zero, List.getElem?_cons_succ, List.getElem?_nil, List.set_cons_zero, List.set_cons_succ, Option.bind_some, Option.bind_none, Option.isSome_some, Nat.reduceAdd, Nat.reduceSub, Nat.reduceLT, Nat.reduceLeDiff, Nat.reduceEqDiff, Int.reduceAdd, Int.reduceMul, Int.reduceNeg, Int.reducePow, Int.reduceLT, Int.reduceLE, and_self, and_true, true_and, if_true, if_false, ↓reduceIte, Bool.not_true, Bool.not_false, decide_true, decide_false, decide_eq_true_eq, List.all_cons, List.all_nil, Bool.and_true, Bool.true_and, Bool.and_self, wipeE, adPl, Int.reduceToNat, rng_5, abs_10, e1]
  rw [if_pos (mul_ok (by omega) (by omega) (by omega) (by omega))]
  simp only [e_iEn, e_iEnK, e_enD, e_iZq, e_iZqK, e_zq_ll, e_zq_tt, e_zq_lt, e_zq_tl, e_asgT, e_asgTK, e_asgO, e_call0, List.reverse_cons, List.reverse_nil, e_cmpV, e_cvH, e_cvB, e_cvO, e_cvZ, e_join, e_jK1, e_jK2, e_len_s, e_whK_f, e_whK_t, e_whS, restE, List.getD_cons_zero, List.getD_cons_succ, List.getD_nil, d_pow_6, d_pow_12, d_pow_18, d_pow_30, e_OE_bind_ok, e_OE_bind_exc, e_OE_bindT_ok, e_OE_bindT_exc, e_OE_bindA_ok, e_OE_bindA_exc, e_OE_bindS_ok, e_OE_bindS_exc, e_OE_bindI_ok, e_OE_bindI_exc, e_OE_bindG_ok, e_OE_bindG_exc, e_OT_bind_ok, e_OT_bind_exc, e_OT_bindE_ok, e_OT_bindE_exc, e_OT_bindS_ok, e_OT_bindS_exc, e_OA_bind_ok, e_OA_bind_exc, e_OA_bindE_ok, e_OA_bindE_exc, e_OA_bindI_ok, e_OA_bindI_exc, e_OI_bindE_ok, e_OI_bindE_exc, e_OI_bindS_ok, e_OI_bindS_exc, e_OG_bind_ok, e_OG_bind_exc, e_OG_bindE_ok, e_OG_bindE_exc, e_seq_nx, e_seq_ret, e_seq_brk, e_seq_cnt, e_seq_exc, e_var, e_varK_sh, e_varK_ow, e_mv, e_mvK_sh, e_mvK_ow, e_c, e_okO, e_op2, e_opK1, e_opK2, e_un, e_unK, e_and, e_or, e_not, e_tru, e_andK_t, e_andK_f, e_orK_t, e_orK_f, e_notK, e_truK, e_if, e_tand, e_tor, e_tnot, e_sif, e_ifK_t, e_ifK_f, e_sifK_t, e_sifK_f, e_tandK_t, e_tandK_f, e_torK_t, e_torK_f, e_tnotK, e_nil, e_cons, e_consK1, e_consK2, e_tup, e_lst, e_cb, e_tupK, e_lstK, e_cbK, e_chain, e_chK1, e_chK2, e_chK3, e_chB_t, e_chB_f, e_ixV, e_ixH, e_ixVK, e_ixE_own, e_ixE_sh, e_atO, e_ownAt, e_ownS_ow, e_ownS_io, e_ownS_lst, e_ownS_tup, e_ownS_str, e_ownS_int, e_lenV, e_lenK_own, e_lenK_sh, e_here_no, e_noIo_no, e_Own_no, e_here_sh, e_noIo_sh, e_Own_sh, e_here_ow, e_noIo_ow, e_Own_ow, e_here_io, e_noIo_io, e_Own_io, e_fz_sh, e_fz_ow, e_sv_sh, e_sv_ow, e_ret, e_retK, e_retN, e_expr, e_exprK, e_pass, e_break, e_cont, e_asg, e_asgK, e_asgB, e_sseq, e_set, e_setK1, e_setB, e_setK2, e_setO, e_setJ, e_nxO, e_setOwn, e_soK_ow, e_soK_io, e_app, e_appB, e_appK, e_appO, e_par, e_parA, e_parK, e_okI, e_iVal, e_iValK, e_items_lst, e_items_tup, e_items_str, e_iZp, e_iZpK, e_zp_l, e_zp_t, e_iRv, e_iRvK, e_rv_l, e_rv_t, e_iRg1, e_iRg1K, e_rg1, e_iRg2, e_iRg2K, e_rg2, e_for, e_forK, e_for_nil, e_for_cons, e_forG, e_forS_nx, e_forS_cnt, e_forS_brk, e_forS_ret, e_forS_exc, e_gVar, e_gvB, e_gTup, e_gTupW, e_gCons, e_gNil, d_add_i, d_add_s, d_add_l, d_add_t, d_mul_i, d_mul_s, d_mul_l, d_fdiv, d_mod, d_pow, d_neg, d_iI, d_ord_i, d_ord_s, d_eq_i, d_eq_s, d_ne_i, d_ne_s, d_len_l, d_len_t, d_abs, d_gcd, d_max2, d_min2, d_tup_l, d_tup_t, d_ix_l, d_ix_t, d_atR, at_0, at_1, at_2, ixn_0, ixn_1, ixn_2, e_run, e_fin_ret, e_fin_nx, e_fin_exc, e_outR, e_outX, e_out_none, e_out_some, e_ioS, e_arg_none, e_arg_nil, e_arg_0, e_arg_s, e_ioD, e_call, e_calK1, e_calK2, e_calO_ret, e_calO_exc, e_callP, e_cpK, e_cpD, e_cpC_s, e_cpC_x, e_cpC_o, e_cpS, e_cpX, e_gnil, e_gv, e_gvK1, e_gvK2, e_gs, e_gsB, e_gsK, e_go, e_goK, e_ads_nil, e_ads_cons, e_adC, e_adC2, e_adD_v, e_adD_s, e_adD_o, e_adO, e_pi, e_piK, e_sl, e_slK1, e_slK2, e_slK3, e_slO, e_part_n, e_part_i, d_slice_l, d_slice_t, e_sl3, e_s3K1, e_s3K2, e_s3K3, e_s3K4, e_s3O, e_lc, e_lcK, e_lcB, e_lcR, e_yes, e_okW2, e_okWS_no, e_okWS_sh, eq_self, log_7, List.length_cons, List.length_nil, List.map_cons, List.map_nil, List.cons_append, List.nil_append, List.replicate_succ, List.replicate_zero, List.append_nil, List.getElem?_cons_zero, List.getElem?_cons_succ, List.getElem?_nil, List.set_cons_zero, List.set_cons_succ, Option.bind_some, Option.bind_none, Option.isSome_some, Nat.reduceAdd, Nat.reduceSub, Nat.reduceLT, Nat.reduceLeDiff, Nat.reduceEqDiff, Int.reduceAdd, Int.reduceMul, Int.reduceNeg, Int.reducePow, Int.reduceLT, Int.reduceLE, and_self, and_true, true_and, if_true, if_false, ↓reduceIte, Bool.not_true, Bool.not_false, decide_true, decide_false, decide_eq_true_eq, List.all_cons, List.all_nil, Bool.and_true, Bool.true_and, Bool.and_self, wipeE, adPl, Int.reduceToNat, rng_5, abs_10, e2]
  rw [if_pos (mul_ok (by omega) (by omega) (by omega) (by omega))]
  simp only [e_iEn, e_iEnK, e_enD, e_iZq, e_iZqK, e_zq_ll, e_zq_tt, e_zq_lt, e_zq_tl, e_asgT, e_asgTK, e_asgO, e_call0, List.reverse_cons, List.reverse_nil, e_cmpV, e_cvH, e_cvB, e_cvO, e_cvZ, e_join, e_jK1, e_jK2, e_len_s, e_whK_f, e_whK_t, e_whS, restE, List.getD_cons_zero, List.getD_cons_succ, List.getD_nil, d_pow_6, d_pow_12, d_pow_18, d_pow_30, e_OE_bind_ok, e_OE_bind_exc, e_OE_bindT_ok, e_OE_bindT_exc, e_OE_bindA_ok, e_OE_bindA_exc, e_OE_bindS_ok, e_OE_bindS_exc, e_OE_bindI_ok, e_OE_bindI_exc, e_OE_bindG_ok, e_OE_bindG_exc, e_OT_bind_ok, e_OT_bind_exc, e_OT_bindE_ok, e_OT_bindE_exc, e_OT_bindS_ok, e_OT_bindS_exc, e_OA_bind_ok, e_OA_bind_exc, e_OA_bindE_ok, e_OA_bindE_exc, e_OA_bindI_ok, e_OA_bindI_exc, e_OI_bindE_ok, e_OI_bindE_exc, e_OI_bindS_ok, e_OI_bindS_exc, e_OG_bind_ok, e_OG_bind_exc, e_OG_bindE_ok, e_OG_bindE_exc, e_seq_nx, e_seq_ret, e_seq_brk, e_seq_cnt, e_seq_exc, e_var, e_varK_sh, e_varK_ow, e_mv, e_mvK_sh, e_mvK_ow, e_c, e_okO, e_op2, e_opK1, e_opK2, e_un, e_unK, e_and, e_or, e_not, e_tru, e_andK_t, e_andK_f, e_orK_t, e_orK_f, e_notK, e_truK, e_if, e_tand, e_tor, e_tnot, e_sif, e_ifK_t, e_ifK_f, e_sifK_t, e_sifK_f, e_tandK_t, e_tandK_f, e_torK_t, e_torK_f, e_tnotK, e_nil, e_cons, e_consK1, e_consK2, e_tup, e_lst, e_cb, e_tupK, e_lstK, e_cbK, e_chain, e_chK1, e_chK2, e_chK3, e_chB_t, e_chB_f, e_ixV, e_ixH, e_ixVK, e_ixE_own, e_ixE_sh, e_atO, e_ownAt, e_ownS_ow, e_ownS_io, e_ownS_lst, e_ownS_tup, e_ownS_str, e_ownS_int, e_lenV, e_lenK_own, e_lenK_sh, e_here_no, e_noIo_no, e_Own_no, e_here_sh, e_noIo_sh, e_Own_sh, e_here_ow, e_noIo_ow, e_Own_ow, e_here_io, e_noIo_io, e_Own_io, e_fz_sh, e_fz_ow, e_sv_sh, e_sv_ow, e_ret, e_retK, e_retN, e_expr, e_exprK, e_pass, e_break, e_cont, e_asg, e_asgK, e_asgB, e_sseq, e_set, e_setK1, e_setB, e_setK2, e_setO, e_setJ, e_nxO, e_setOwn, e_soK_ow, e_soK_io, e_app, e_appB, e_appK, e_appO, e_par, e_parA, e_parK, e_okI, e_iVal, e_iValK, e_items_lst, e_items_tup, e_items_str, e_iZp, e_iZpK, e_zp_l, e_zp_t, e_iRv, e_iRvK, e_rv_l, e_rv_t, e_iRg1, e_iRg1K, e_rg1, e_iRg2, e_iRg2K, e_rg2, e_for, e_forK, e_for_nil, e_for_cons, e_forG, e_forS_nx, e_forS_cnt, e_forS_brk, e_forS_ret, e_forS_exc, e_gVar, e_gvB, e_gTup, e_gTupW, e_gCons, e_gNil, d_add_i, d_add_s, d_add_l, d_add_t, d_mul_i, d_mul_s, d_mul_l, d_fdiv, d_mod, d_pow, d_neg, d_iI, d_ord_i, d_ord_s, d_eq_i, d_eq_s, d_ne_i, d_ne_s, d_len_l, d_len_t, d_abs, d_gcd, d_max2, d_min2, d_tup_l, d_tup_t, d_ix_l, d_ix_t, d_atR, at_0, at_1, at_2, ixn_0, ixn_1, ixn_2, e_run, e_fin_ret, e_fin_nx, e_fin_exc, e_outR, e_outX, e_out_none, e_out_some, e_ioS, e_arg_none, e_arg_nil, e_arg_0, e_arg_s, e_ioD, e_call, e_calK1, e_calK2, e_calO_ret, e_calO_exc, e_callP, e_cpK, e_cpD, e_cpC_s, e_cpC_x, e_cpC_o, e_cpS, e_cpX, e_gnil, e_gv, e_gvK1, e_gvK2, e_gs, e_gsB, e_gsK, e_go, e_goK, e_ads_nil, e_ads_cons, e_adC, e_adC2, e_adD_v, e_adD_s, e_adD_o, e_adO, e_pi, e_piK, e_sl, e_slK1, e_slK2, e_slK3, e_slO, e_part_n, e_part_i, d_slice_l, d_slice_t, e_sl3, e_s3K1, e_s3K2, e_s3K3, e_s3K4, e_s3O, e_lc, e_lcK, e_lcB, e_lcR, e_yes, e_okW2, e_okWS_no, e_okWS_sh, eq_self, log_7, List.length_cons, List.length_nil, List.map_cons, List.map_nil, List.cons_append, List.nil_append, List.replicate_succ, List.replicate_zero, List.append_nil, List.getElem?_cons_zero, List.getElem?_cons_succ, List.getElem?_nil, List.set_cons_zero, List.set_cons_succ, Option.bind_some, Option.bind_none, Option.isSome_some, Nat.reduceAdd, Nat.reduceSub, Nat.reduceLT, Nat.reduceLeDiff, Nat.reduceEqDiff, Int.reduceAdd, Int.reduceMul, Int.reduceNeg, Int.reducePow, Int.reduceLT, Int.reduceLE, and_self, and_true, true_and, if_true, if_false, ↓reduceIte, Bool.not_true, Bool.not_false, decide_true, decide_false, decide_eq_true_eq, List.all_cons, List.all_nil, Bool.and_true, Bool.true_and, Bool.and_self, wipeE, adPl, Int.reduceToNat, rng_5, abs_10, e3]
  rw [if_pos (mul_ok (by omega) (by omega) (by omega) (by omega))]
  simp only [e_iEn, e_iEnK, e_enD, e_iZq, e_iZqK, e_zq_ll, e_zq_tt, e_zq_lt, e_zq_tl, e_asgT, e_asgTK, e_asgO, e_call0, List.reverse_cons, List.reverse_nil, e_cmpV, e_cvH, e_cvB, e_cvO, e_cvZ, e_join, e_jK1, e_jK2, e_len_s, e_whK_f, e_whK_t, e_whS, restE, List.getD_cons_zero, List.getD_cons_succ, List.getD_nil, d_pow_6, d_pow_12, d_pow_18, d_pow_30, e_OE_bind_ok, e_OE_bind_exc, e_OE_bindT_ok, e_OE_bindT_exc, e_OE_bindA_ok, e_OE_bindA_exc, e_OE_bindS_ok, e_OE_bindS_exc, e_OE_bindI_ok, e_OE_bindI_exc, e_OE_bindG_ok, e_OE_bindG_exc, e_OT_bind_ok, e_OT_bind_exc, e_OT_bindE_ok, e_OT_bindE_exc, e_OT_bindS_ok, e_OT_bindS_exc, e_OA_bind_ok, e_OA_bind_exc, e_OA_bindE_ok, e_OA_bindE_exc, e_OA_bindI_ok, e_OA_bindI_exc, e_OI_bindE_ok, e_OI_bindE_exc, e_OI_bindS_ok, e_OI_bindS_exc, e_OG_bind_ok, e_OG_bind_exc, e_OG_bindE_ok, e_OG_bindE_exc, e_seq_nx, e_seq_ret, e_seq_brk, e_seq_cnt, e_seq_exc, e_var, e_varK_sh, e_varK_ow, e_mv, e_mvK_sh, e_mvK_ow, e_c, e_okO, e_op2, e_opK1, e_opK2, e_un, e_unK, e_and, e_or, e_not, e_tru, e_andK_t, e_andK_f, e_orK_t, e_orK_f, e_notK, e_truK, e_if, e_tand, e_tor, e_tnot, e_sif, e_ifK_t, e_ifK_f, e_sifK_t, e_sifK_f, e_tandK_t, e_tandK_f, e_torK_t, e_torK_f, e_tnotK, e_nil, e_cons, e_consK1, e_consK2, e_tup, e_lst, e_cb, e_tupK, e_lstK, e_cbK, e_chain, e_chK1, e_chK2, e_chK3, e_chB_t, e_chB_f, e_ixV, e_ixH, e_ixVK, e_ixE_own, e_ixE_sh, e_atO, e_ownAt, e_ownS_ow, e_ownS_io, e_ownS_lst, e_ownS_tup, e_ownS_str, e_ownS_int, e_lenV, e_lenK_own, e_lenK_sh, e_here_no, e_noIo_no, e_Own_no, e_here_sh, e_noIo_sh, e_Own_sh, e_here_ow, e_noIo_ow, e_Own_ow, e_here_io, e_noIo_io, e_Own_io, e_fz_sh, e_fz_ow, e_sv_sh, e_sv_ow, e_ret, e_retK, e_retN, e_expr, e_exprK, e_pass, e_break, e_cont, e_asg, e_asgK, e_asgB, e_sseq, e_set, e_setK1, e_setB, e_setK2, e_setO, e_setJ, e_nxO, e_setOwn, e_soK_ow, e_soK_io, e_app, e_appB, e_appK, e_appO, e_par, e_parA, e_parK, e_okI, e_iVal, e_iValK, e_items_lst, e_items_tup, e_items_str, e_iZp, e_iZpK, e_zp_l, e_zp_t, e_iRv, e_iRvK, e_rv_l, e_rv_t, e_iRg1, e_iRg1K, e_rg1, e_iRg2, e_iRg2K, e_rg2, e_for, e_forK, e_for_nil, e_for_cons, e_forG, e_forS_nx, e_forS_cnt, e_forS_brk, e_forS_ret, e_forS_exc, e_gVar, e_gvB, e_gTup, e_gTupW, e_gCons, e_gNil, d_add_i, d_add_s, d_add_l, d_add_t, d_mul_i, d_mul_s, d_mul_l, d_fdiv, d_mod, d_pow, d_neg, d_iI, d_ord_i, d_ord_s, d_eq_i, d_eq_s, d_ne_i, d_ne_s, d_len_l, d_len_t, d_abs, d_gcd, d_max2, d_min2, d_tup_l, d_tup_t, d_ix_l, d_ix_t, d_atR, at_0, at_1, at_2, ixn_0, ixn_1, ixn_2, e_run, e_fin_ret, e_fin_nx, e_fin_exc, e_outR, e_outX, e_out_none, e_out_some, e_ioS, e_arg_none, e_arg_nil, e_arg_0, e_arg_s, e_ioD, e_call, e_calK1, e_calK2, e_calO_ret, e_calO_exc, e_callP, e_cpK, e_cpD, e_cpC_s, e_cpC_x, e_cpC_o, e_cpS, e_cpX, e_gnil, e_gv, e_gvK1, e_gvK2, e_gs, e_gsB, e_gsK, e_go, e_goK, e_ads_nil, e_ads_cons, e_adC, e_adC2, e_adD_v, e_adD_s, e_adD_o, e_adO, e_pi, e_piK, e_sl, e_slK1, e_slK2, e_slK3, e_slO, e_part_n, e_part_i, d_slice_l, d_slice_t, e_sl3, e_s3K1, e_s3K2, e_s3K3, e_s3K4, e_s3O, e_lc, e_lcK, e_lcB, e_lcR, e_yes, e_okW2, e_okWS_no, e_okWS_sh, eq_self, log_7, List.length_cons, List.length_nil, List.map_cons, List.map_nil, List.cons_append, List.nil_append, List.replicate_succ, List.replicate_zero, List.append_nil, List.getElem?_cons_zero, List.getElem?_cons_succ, List.getElem?_nil, List.set_cons_zero, List.set_cons_succ, Option.bind_some, Option.bind_none, Option.isSome_some, Nat.reduceAdd, Nat.reduceSub, Nat.reduceLT, Nat.reduceLeDiff, Nat.reduceEqDiff, Int.reduceAdd, Int.reduceMul, Int.reduceNeg, Int.reducePow, Int.reduceLT, Int.reduceLE, and_self, and_true, true_and, if_true, if_false, ↓reduceIte, Bool.not_true, Bool.not_false, decide_true, decide_false, decide_eq_true_eq, List.all_cons, List.all_nil, Bool.and_true, Bool.true_and, Bool.and_self, wipeE, adPl, Int.reduceToNat, rng_5, abs_10, e4]
  rw [if_pos (mul_ok (by omega) (by omega) (by omega) (by omega))]
  simp only [e_iEn, e_iEnK, e_enD, e_iZq, e_iZqK, e_zq_ll, e_zq_tt, e_zq_lt, e_zq_tl, e_asgT, e_asgTK, e_asgO, e_call0, List.reverse_cons, List.reverse_nil, e_cmpV, e_cvH, e_cvB, e_cvO, e_cvZ, e_join, e_jK1, e_jK2, e_len_s, e_whK_f, e_whK_t, e_whS, restE, List.getD_cons_zero, List.getD_cons_succ, List.getD_nil, d_pow_6, d_pow_12, d_pow_18, d_pow_30, e_OE_bind_ok, e_OE_bind_exc, e_OE_bindT_ok, e_OE_bindT_exc, e_OE_bindA_ok, e_OE_bindA_exc, e_OE_bindS_ok, e_OE_bindS_exc, e_OE_bindI_ok, e_OE_bindI_exc, e_OE_bindG_ok, e_OE_bindG_exc, e_OT_bind_ok, e_OT_bind_exc, e_OT_bindE_ok, e_OT_bindE_exc, e_OT_bindS_ok, e_OT_bindS_exc, e_OA_bind_ok, e_OA_bind_exc, e_OA_bindE_ok, e_OA_bindE_exc, e_OA_bindI_ok, e_OA_bindI_exc, e_OI_bindE_ok, e_OI_bindE_exc, e_OI_bindS_ok, e_OI_bindS_exc, e_OG_bind_ok, e_OG_bind_exc, e_OG_bindE_ok, e_OG_bindE_exc, e_seq_nx, e_seq_ret, e_seq_brk, e_seq_cnt, e_seq_exc, e_var, e_varK_sh, e_varK_ow, e_mv, e_mvK_sh, e_mvK_ow, e_c, e_okO, e_op2, e_opK1, e_opK2, e_un, e_unK, e_and, e_or, e_not, e_tru, e_andK_t, e_andK_f, e_orK_t, e_orK_f, e_notK, e_truK, e_if, e_tand, e_tor, e_tnot, e_sif, e_ifK_t, e_ifK_f, e_sifK_t, e_sifK_f, e_tandK_t, e_tandK_f, e_torK_t, e_torK_f, e_tnotK, e_nil, e_cons, e_consK1, e_consK2, e_tup, e_lst, e_cb, e_tupK, e_lstK, e_cbK, e_chain, e_chK1, e_chK2, e_chK3, e_chB_t, e_chB_f, e_ixV, e_ixH, e_ixVK, e_ixE_own, e_ixE_sh, e_atO, e_ownAt, e_ownS_ow, e_ownS_io, e_ownS_lst, e_ownS_tup, e_ownS_str, e_ownS_int, e_lenV, e_lenK_own, e_lenK_sh, e_here_no, e_noIo_no, e_Own_no, e_here_sh, e_noIo_sh, e_Own_sh, e_here_ow, e_noIo_ow, e_Own_ow, e_here_io, e_noIo_io, e_Own_io, e_fz_sh, e_fz_ow, e_sv_sh, e_sv_ow, e_ret, e_retK, e_retN, e_expr, e_exprK, e_pass, e_break, e_cont, e_asg, e_asgK, e_asgB, e_sseq, e_set, e_setK1, e_setB, e_setK2, e_setO, e_setJ, e_nxO, e_setOwn, e_soK_ow, e_soK_io, e_app, e_appB, e_appK, e_appO, e_par, e_parA, e_parK, e_okI, e_iVal, e_iValK, e_items_lst, e_items_tup, e_items_str, e_iZp, e_iZpK, e_zp_l, e_zp_t, e_iRv, e_iRvK, e_rv_l, e_rv_t, e_iRg1, e_iRg1K, e_rg1, e_iRg2, e_iRg2K, e_rg2, e_for, e_forK, e_for_nil, e_for_cons, e_forG, e_forS_nx, e_forS_cnt, e_forS_brk, e_forS_ret, e_forS_exc, e_gVar, e_gvB, e_gTup, e_gTupW, e_gCons, e_gNil, d_add_i, d_add_s, d_add_l, d_add_t, d_mul_i, d_mul_s, d_mul_l, d_fdiv, d_mod, d_pow, d_neg, d_iI, d_ord_i, d_ord_s, d_eq_i, d_eq_s, d_ne_i, d_ne_s, d_len_l, d_len_t, d_abs, d_gcd, d_max2, d_min2, d_tup_l, d_tup_t, d_ix_l, d_ix_t, d_atR, at_0, at_1, at_2, ixn_0, ixn_1, ixn_2, e_run, e_fin_ret, e_fin_nx, e_fin_exc, e_outR, e_outX, e_out_none, e_out_some, e_ioS, e_arg_none, e_arg_nil, e_arg_0, e_arg_s, e_ioD, e_call, e_calK1, e_calK2, e_calO_ret, e_calO_exc, e_callP, e_cpK, e_cpD, e_cpC_s, e_cpC_x, e_cpC_o, e_cpS, e_cpX, e_gnil, e_gv, e_gvK1, e_gvK2, e_gs, e_gsB, e_gsK, e_go, e_goK, e_ads_nil, e_ads_cons, e_adC, e_adC2, e_adD_v, e_adD_s, e_adD_o, e_adO, e_pi, e_piK, e_sl, e_slK1, e_slK2, e_slK3, e_slO, e_part_n, e_part_i, d_slice_l, d_slice_t, e_sl3, e_s3K1, e_s3K2, e_s3K3, e_s3K4, e_s3O, e_lc, e_lcK, e_lcB, e_lcR, e_yes, e_okW2, e_okWS_no, e_okWS_sh, eq_self, log_7, List.length_cons, List.length_nil, List.map_cons, List.map_nil, List.cons_append, List.nil_append, List.replicate_succ, List.replicate_zero, List.append_nil, List.getElem?_cons_zero, List.getElem?_cons_succ, List.getElem?_nil, List.set_cons_zero, List.set_cons_succ, Option.bind_some, Option.bind_none, Option.isSome_some, Nat.reduceAdd, Nat.reduceSub, Nat.reduceLT, Nat.reduceLeDiff, Nat.reduceEqDiff, Int.reduceAdd, Int.reduceMul, Int.reduceNeg, Int.reducePow, Int.reduceLT, Int.reduceLE, and_self, and_true, true_and, if_true, if_false, ↓reduceIte, Bool.not_true, Bool.not_false, decide_true, decide_false, decide_eq_true_eq, List.all_cons, List.all_nil, Bool.and_true, Bool.true_and, Bool.and_self, wipeE, adPl, Int.reduceToNat, rng_5, abs_10, e5]
theorem sign_p {n : Int} {p : List D} (h : Pk n p) (hn : n < 10 ^ 6) : ∃ v s p', f__law_take [.lst p, .int 2] = .ret (.sh (.int v)) p' ∧ L2.atI [D.int 1, D.int (-1)] v = some (.int s) ∧ (s = 1 ∨ s = -1) ∧ Pk (n + 1) p' := by
  obtain ⟨v, p', e, a, b, h1⟩ := take_p h (m := 2) (by omega) (by omega) (by omega)
  rcases (show v = 0 ∨ v = 1 by omega) with rfl | rfl
  · exact ⟨0, 1, p', e, rfl, .inl rfl, h1⟩
  · exact ⟨1, -1, p', e, rfl, .inr rfl, h1⟩
theorem number_p {n : Int} {p : List D} (h : Pk n p) (hn : n + 20 < 10 ^ 6) : ∃ v p', f__law_number [.lst p] = .ret (.sh (.int v)) p' ∧ -(10 ^ 30) ≤ v ∧ v ≤ 10 ^ 30 ∧ Pk (n + 9) p' := by
  obtain ⟨w, p1, e1, a1, b1, h1⟩ := take_p h (m := 4) (by omega) (by omega) (by omega)
  by_cases hw : w = 0
  · refine ⟨0, p1, ?_, by omega, by omega, h1.mono (by omega)⟩
    simp only [f__law_number, F__law_number, e_iEn, e_iEnK, e_enD, e_iZq, e_iZqK, e_zq_ll, e_zq_tt, e_zq_lt, e_zq_tl, e_asgT, e_asgTK, e_asgO, e_call0, List.reverse_cons, List.reverse_nil, e_cmpV, e_cvH, e_cvB, e_cvO, e_cvZ, e_join, e_jK1, e_jK2, e_len_s, e_whK_f, e_whK_t, e_whS, restE, List.getD_cons_zero, List.getD_cons_succ, List.getD_nil, d_pow_6, d_pow_12, d_pow_18, d_pow_30, e_OE_bind_ok, e_OE_bind_exc, e_OE_bindT_ok, e_OE_bindT_exc, e_OE_bindA_ok, e_OE_bindA_exc, e_OE_bindS_ok, e_OE_bindS_exc, e_OE_bindI_ok, e_OE_bindI_exc, e_OE_bindG_ok, e_OE_bindG_exc, e_OT_bind_ok, e_OT_bind_exc, e_OT_bindE_ok, e_OT_bindE_exc, e_OT_bindS_ok, e_OT_bindS_exc, e_OA_bind_ok, e_OA_bind_exc, e_OA_bindE_ok, e_OA_bindE_exc, e_OA_bindI_ok, e_OA_bindI_exc, e_OI_bindE_ok, e_OI_bindE_exc, e_OI_bindS_ok, e_OI_bindS_exc, e_OG_bind_ok, e_OG_bind_exc, e_OG_bindE_ok, e_OG_bindE_exc, e_seq_nx, e_seq_ret, e_seq_brk, e_seq_cnt, e_seq_exc, e_var, e_varK_sh, e_varK_ow, e_mv, e_mvK_sh, e_mvK_ow, e_c, e_okO, e_op2, e_opK1, e_opK2, e_un, e_unK, e_and, e_or, e_not, e_tru, e_andK_t, e_andK_f, e_orK_t, e_orK_f, e_notK, e_truK, e_if, e_tand, e_tor, e_tnot, e_sif, e_ifK_t, e_ifK_f, e_sifK_t, e_sifK_f, e_tandK_t, e_tandK_f, e_torK_t, e_torK_f, e_tnotK, e_nil, e_cons, e_consK1, e_consK2, e_tup, e_lst, e_cb, e_tupK, e_lstK, e_cbK, e_chain, e_chK1, e_chK2, e_chK3, e_chB_t, e_chB_f, e_ixV, e_ixH, e_ixVK, e_ixE_own, e_ixE_sh, e_atO, e_ownAt, e_ownS_ow, e_ownS_io, e_ownS_lst, e_ownS_tup, e_ownS_str, e_ownS_int, e_lenV, e_lenK_own, e_lenK_sh, e_here_no, e_noIo_no, e_Own_no, e_here_sh, e_noIo_sh, e_Own_sh, e_here_ow, e_noIo_ow, e_Own_ow, e_here_io, e_noIo_io, e_Own_io, e_fz_sh, e_fz_ow, e_sv_sh, e_sv_ow, e_ret, e_retK, e_retN, e_expr, e_exprK, e_pass, e_break, e_cont, e_asg, e_asgK, e_asgB, e_sseq, e_set, e_setK1, e_setB, e_setK2, e_setO, e_setJ, e_nxO, e_setOwn, e_soK_ow, e_soK_io, e_app, e_appB, e_appK, e_appO, e_par, e_parA, e_parK, e_okI, e_iVal, e_iValK, e_items_lst, e_items_tup, e_items_str, e_iZp, e_iZpK, e_zp_l, e_zp_t, e_iRv, e_iRvK, e_rv_l, e_rv_t, e_iRg1, e_iRg1K, e_rg1, e_iRg2, e_iRg2K, e_rg2, e_for, e_forK, e_for_nil, e_for_cons, e_forG, e_forS_nx, e_forS_cnt, e_forS_brk, e_forS_ret, e_forS_exc, e_gVar, e_gvB, e_gTup, e_gTupW, e_gCons, e_gNil, d_add_i, d_add_s, d_add_l, d_add_t, d_mul_i, d_mul_s, d_mul_l, d_fdiv, d_mod, d_pow, d_neg, d_iI, d_ord_i, d_ord_s, d_eq_i, d_eq_s, d_ne_i, d_ne_s, d_len_l, d_len_t, d_abs, d_gcd, d_max2, d_min2, d_tup_l, d_tup_t, d_ix_l, d_ix_t, d_atR, at_0, at_1, at_2, ixn_0, ixn_1, ixn_2, e_run, e_fin_ret, e_fin_nx, e_fin_exc, e_outR, e_outX, e_out_none, e_out_some, e_ioS, e_arg_none, e_arg_nil, e_arg_0, e_arg_s, e_ioD, e_call, e_calK1, e_calK2, e_calO_ret, e_calO_exc, e_callP, e_cpK, e_cpD, e_cpC_s, e_cpC_x, e_cpC_o, e_cpS, e_cpX, e_gnil, e_gv, e_gvK1, e_gvK2, e_gs, e_gsB, e_gsK, e_go, e_goK, e_ads_nil, e_ads_cons, e_adC, e_adC2, e_adD_v, e_adD_s, e_adD_o, e_adO, e_pi, e_piK, e_sl, e_slK1, e_slK2, e_slK3, e_slO, e_part_n, e_part_i, d_slice_l, d_slice_t, e_sl3, e_s3K1, e_s3K2, e_s3K3, e_s3K4, e_s3O, e_lc, e_lcK, e_lcB, e_lcR, e_yes, e_okW2, e_okWS_no, e_okWS_sh, eq_self, log_7, List.length_cons, List.length_nil, List.map_cons, List.map_nil, List.cons_append, List.nil_append, List.replicate_succ, List.replicate_zero, List.append_nil, List.getElem?_cons_zero, List.getElem?_cons_succ, List.getElem?_nil, List.set_cons_zero, List.set_cons_succ, Option.bind_some, Option.bind_none, Option.isSome_some, Nat.reduceAdd, Nat.reduceSub, Nat.reduceLT, Nat.reduceLeDiff, Nat.reduceEqDiff, Int.reduceAdd, Int.reduceMul, Int.reduceNeg, Int.reducePow, Int.reduceLT, Int.reduceLE, and_self, and_true, true_and, if_true, if_false, ↓reduceIte, Bool.not_true, Bool.not_false, decide_true, decide_false, decide_eq_true_eq, List.all_cons, List.all_nil, Bool.and_true, Bool.true_and, Bool.and_self, wipeE, adPl, Int.reduceToNat, rng_5, abs_10, e1, hw]
  obtain ⟨v2, p2, e2, a2, b2, h2⟩ := take_p h1 (m := 9) (by omega) (by omega) (by omega)
  obtain ⟨v3, p3, e3, a3, b3, h3⟩ := take_p h2 (m := 1000) (by omega) (by omega) (by omega)
  obtain ⟨v4, p4, e4, a4, b4, h4⟩ := great_p h3 (by omega)
  obtain ⟨v5, s, p5, e5, i5, s5, h5⟩ := sign_p h4 (by omega)
  obtain ⟨x, ix, x1, x2⟩ : ∃ x, L2.atI [D.int (1 + v2), D.int v3, D.int v4] (w - 1) = some (.int x) ∧ 0 ≤ x ∧ x ≤ 10 ^ 30 := by
    rcases (show w = 1 ∨ w = 2 ∨ w = 3 by omega) with rfl | rfl | rfl
    · exact ⟨_, rfl, by omega, by omega⟩
    · exact ⟨_, rfl, by omega, by omega⟩
    · exact ⟨_, rfl, by omega, by omega⟩
  refine ⟨x * s, p5, ?_, by rcases s5 with rfl | rfl <;> omega, by rcases s5 with rfl | rfl <;> omega, h5.mono (by omega)⟩
  simp only [f__law_number, F__law_number, e_iEn, e_iEnK, e_enD, e_iZq, e_iZqK, e_zq_ll, e_zq_tt, e_zq_lt, e_zq_tl, e_asgT, e_asgTK, e_asgO, e_call0, List.reverse_cons, List.reverse_nil, e_cmpV, e_cvH, e_cvB, e_cvO, e_cvZ, e_join, e_jK1, e_jK2, e_len_s, e_whK_f, e_whK_t, e_whS, restE, List.getD_cons_zero, List.getD_cons_succ, List.getD_nil, d_pow_6, d_pow_12, d_pow_18, d_pow_30, e_OE_bind_ok, e_OE_bind_exc, e_OE_bindT_ok, e_OE_bindT_exc, e_OE_bindA_ok, e_OE_bindA_exc, e_OE_bindS_ok, e_OE_bindS_exc, e_OE_bindI_ok, e_OE_bindI_exc, e_OE_bindG_ok, e_OE_bindG_exc, e_OT_bind_ok, e_OT_bind_exc, e_OT_bindE_ok, e_OT_bindE_exc, e_OT_bindS_ok, e_OT_bindS_exc, e_OA_bind_ok, e_OA_bind_exc, e_OA_bindE_ok, e_OA_bindE_exc, e_OA_bindI_ok, e_OA_bindI_exc, e_OI_bindE_ok, e_OI_bindE_exc, e_OI_bindS_ok, e_OI_bindS_exc, e_OG_bind_ok, e_OG_bind_exc, e_OG_bindE_ok, e_OG_bindE_exc, e_seq_nx, e_seq_ret, e_seq_brk, e_seq_cnt, e_seq_exc, e_var, e_varK_sh, e_varK_ow, e_mv, e_mvK_sh, e_mvK_ow, e_c, e_okO, e_op2, e_opK1, e_opK2, e_un, e_unK, e_and, e_or, e_not, e_tru, e_andK_t, e_andK_f, e_orK_t, e_orK_f, e_notK, e_truK, e_if, e_tand, e_tor, e_tnot, e_sif, e_ifK_t, e_ifK_f, e_sifK_t, e_sifK_f, e_tandK_t, e_tandK_f, e_torK_t, e_torK_f, e_tnotK, e_nil, e_cons, e_consK1, e_consK2, e_tup, e_lst, e_cb, e_tupK, e_lstK, e_cbK, e_chain, e_chK1, e_chK2, e_chK3, e_chB_t, e_chB_f, e_ixV, e_ixH, e_ixVK, e_ixE_own, e_ixE_sh, e_atO, e_ownAt, e_ownS_ow, e_ownS_io, e_ownS_lst, e_ownS_tup, e_ownS_str, e_ownS_int, e_lenV, e_lenK_own, e_lenK_sh, e_here_no, e_noIo_no, e_Own_no, e_here_sh, e_noIo_sh, e_Own_sh, e_here_ow, e_noIo_ow, e_Own_ow, e_here_io, e_noIo_io, e_Own_io, e_fz_sh, e_fz_ow, e_sv_sh, e_sv_ow, e_ret, e_retK, e_retN, e_expr, e_exprK, e_pass, e_break, e_cont, e_asg, e_asgK, e_asgB, e_sseq, e_set, e_setK1, e_setB, e_setK2, e_setO, e_setJ, e_nxO, e_setOwn, e_soK_ow, e_soK_io, e_app, e_appB, e_appK, e_appO, e_par, e_parA, e_parK, e_okI, e_iVal, e_iValK, e_items_lst, e_items_tup, e_items_str, e_iZp, e_iZpK, e_zp_l, e_zp_t, e_iRv, e_iRvK, e_rv_l, e_rv_t, e_iRg1, e_iRg1K, e_rg1, e_iRg2, e_iRg2K, e_rg2, e_for, e_forK, e_for_nil, e_for_cons, e_forG, e_forS_nx, e_forS_cnt, e_forS_brk, e_forS_ret, e_forS_exc, e_gVar, e_gvB, e_gTup, e_gTupW, e_gCons, e_gNil, d_add_i, d_add_s, d_add_l, d_add_t, d_mul_i, d_mul_s, d_mul_l, d_fdiv, d_mod, d_pow, d_neg, d_iI, d_ord_i, d_ord_s, d_eq_i, d_eq_s, d_ne_i, d_ne_s, d_len_l, d_len_t, d_abs, d_gcd, d_max2, d_min2, d_tup_l, d_tup_t, d_ix_l, d_ix_t, d_atR, at_0, at_1, at_2, ixn_0, ixn_1, ixn_2, e_run, e_fin_ret, e_fin_nx, e_fin_exc, e_outR, e_outX, e_out_none, e_out_some, e_ioS, e_arg_none, e_arg_nil, e_arg_0, e_arg_s, e_ioD, e_call, e_calK1, e_calK2, e_calO_ret, e_calO_exc, e_callP, e_cpK, e_cpD, e_cpC_s, e_cpC_x, e_cpC_o, e_cpS, e_cpX, e_gnil, e_gv, e_gvK1, e_gvK2, e_gs, e_gsB, e_gsK, e_go, e_goK, e_ads_nil, e_ads_cons, e_adC, e_adC2, e_adD_v, e_adD_s, e_adD_o, e_adO, e_pi, e_piK, e_sl, e_slK1, e_slK2, e_slK3, e_slO, e_part_n, e_part_i, d_slice_l, d_slice_t, e_sl3, e_s3K1, e_s3K2, e_s3K3, e_s3K4, e_s3O, e_lc, e_lcK, e_lcB, e_lcR, e_yes, e_okW2, e_okWS_no, e_okWS_sh, eq_self, log_7, List.length_cons, List.length_nil, List.map_cons, List.map_nil, List.cons_append, List.nil_append, List.replicate_succ, List.replicate_zero, List.append_nil, List.getElem?_cons_zero, List.getElem?_cons_succ, List.getElem?_nil, List.set_cons_zero, List.set_cons_succ, Option.bind_some, Option.bind_none, Option.isSome_some, Nat.reduceAdd, Nat.reduceSub, Nat.reduceLT, Nat.reduceLeDiff, Nat.reduceEqDiff, Int.reduceAdd, Int.reduceMul, Int.reduceNeg, Int.reducePow, Int.reduceLT, Int.reduceLE, and_self, and_true, true_and, if_true, if_false, ↓reduceIte, Bool.not_true, Bool.not_false, decide_true, decide_false, decide_eq_true_eq, List.all_cons, List.all_nil, Bool.and_true, Bool.true_and, Bool.and_self, wipeE, adPl, Int.reduceToNat, rng_5, abs_10, e1, hw, e2, e3, e4, e5, ix, i5]
  rw [if_pos (mul_ok (by omega) (by omega) (by omega) (by omega))]
  simp only [e_iEn, e_iEnK, e_enD, e_iZq, e_iZqK, e_zq_ll, e_zq_tt, e_zq_lt, e_zq_tl, e_asgT, e_asgTK, e_asgO, e_call0, List.reverse_cons, List.reverse_nil, e_cmpV, e_cvH, e_cvB, e_cvO, e_cvZ, e_join, e_jK1, e_jK2, e_len_s, e_whK_f, e_whK_t, e_whS, restE, List.getD_cons_zero, List.getD_cons_succ, List.getD_nil, d_pow_6, d_pow_12, d_pow_18, d_pow_30, e_OE_bind_ok, e_OE_bind_exc, e_OE_bindT_ok, e_OE_bindT_exc, e_OE_bindA_ok, e_OE_bindA_exc, e_OE_bindS_ok, e_OE_bindS_exc, e_OE_bindI_ok, e_OE_bindI_exc, e_OE_bindG_ok, e_OE_bindG_exc, e_OT_bind_ok, e_OT_bind_exc, e_OT_bindE_ok, e_OT_bindE_exc, e_OT_bindS_ok, e_OT_bindS_exc, e_OA_bind_ok, e_OA_bind_exc, e_OA_bindE_ok, e_OA_bindE_exc, e_OA_bindI_ok, e_OA_bindI_exc, e_OI_bindE_ok, e_OI_bindE_exc, e_OI_bindS_ok, e_OI_bindS_exc, e_OG_bind_ok, e_OG_bind_exc, e_OG_bindE_ok, e_OG_bindE_exc, e_seq_nx, e_seq_ret, e_seq_brk, e_seq_cnt, e_seq_exc, e_var, e_varK_sh, e_varK_ow, e_mv, e_mvK_sh, e_mvK_ow, e_c, e_okO, e_op2, e_opK1, e_opK2, e_un, e_unK, e_and, e_or, e_not, e_tru, e_andK_t, e_andK_f, e_orK_t, e_orK_f, e_notK, e_truK, e_if, e_tand, e_tor, e_tnot, e_sif, e_ifK_t, e_ifK_f, e_sifK_t, e_sifK_f, e_tandK_t, e_tandK_f, e_torK_t, e_torK_f, e_tnotK, e_nil, e_cons, e_consK1, e_consK2, e_tup, e_lst, e_cb, e_tupK, e_lstK, e_cbK, e_chain, e_chK1, e_chK2, e_chK3, e_chB_t, e_chB_f, e_ixV, e_ixH, e_ixVK, e_ixE_own, e_ixE_sh, e_atO, e_ownAt, e_ownS_ow, e_ownS_io, e_ownS_lst, e_ownS_tup, e_ownS_str, e_ownS_int, e_lenV, e_lenK_own, e_lenK_sh, e_here_no, e_noIo_no, e_Own_no, e_here_sh, e_noIo_sh, e_Own_sh, e_here_ow, e_noIo_ow, e_Own_ow, e_here_io, e_noIo_io, e_Own_io, e_fz_sh, e_fz_ow, e_sv_sh, e_sv_ow, e_ret, e_retK, e_retN, e_expr, e_exprK, e_pass, e_break, e_cont, e_asg, e_asgK, e_asgB, e_sseq, e_set, e_setK1, e_setB, e_setK2, e_setO, e_setJ, e_nxO, e_setOwn, e_soK_ow, e_soK_io, e_app, e_appB, e_appK, e_appO, e_par, e_parA, e_parK, e_okI, e_iVal, e_iValK, e_items_lst, e_items_tup, e_items_str, e_iZp, e_iZpK, e_zp_l, e_zp_t, e_iRv, e_iRvK, e_rv_l, e_rv_t, e_iRg1, e_iRg1K, e_rg1, e_iRg2, e_iRg2K, e_rg2, e_for, e_forK, e_for_nil, e_for_cons, e_forG, e_forS_nx, e_forS_cnt, e_forS_brk, e_forS_ret, e_forS_exc, e_gVar, e_gvB, e_gTup, e_gTupW, e_gCons, e_gNil, d_add_i, d_add_s, d_add_l, d_add_t, d_mul_i, d_mul_s, d_mul_l, d_fdiv, d_mod, d_pow, d_neg, d_iI, d_ord_i, d_ord_s, d_eq_i, d_eq_s, d_ne_i, d_ne_s, d_len_l, d_len_t, d_abs, d_gcd, d_max2, d_min2, d_tup_l, d_tup_t, d_ix_l, d_ix_t, d_atR, at_0, at_1, at_2, ixn_0, ixn_1, ixn_2, e_run, e_fin_ret, e_fin_nx, e_fin_exc, e_outR, e_outX, e_out_none, e_out_some, e_ioS, e_arg_none, e_arg_nil, e_arg_0, e_arg_s, e_ioD, e_call, e_calK1, e_calK2, e_calO_ret, e_calO_exc, e_callP, e_cpK, e_cpD, e_cpC_s, e_cpC_x, e_cpC_o, e_cpS, e_cpX, e_gnil, e_gv, e_gvK1, e_gvK2, e_gs, e_gsB, e_gsK, e_go, e_goK, e_ads_nil, e_ads_cons, e_adC, e_adC2, e_adD_v, e_adD_s, e_adD_o, e_adO, e_pi, e_piK, e_sl, e_slK1, e_slK2, e_slK3, e_slO, e_part_n, e_part_i, d_slice_l, d_slice_t, e_sl3, e_s3K1, e_s3K2, e_s3K3, e_s3K4, e_s3O, e_lc, e_lcK, e_lcB, e_lcR, e_yes, e_okW2, e_okWS_no, e_okWS_sh, eq_self, log_7, List.length_cons, List.length_nil, List.map_cons, List.map_nil, List.cons_append, List.nil_append, List.replicate_succ, List.replicate_zero, List.append_nil, List.getElem?_cons_zero, List.getElem?_cons_succ, List.getElem?_nil, List.set_cons_zero, List.set_cons_succ, Option.bind_some, Option.bind_none, Option.isSome_some, Nat.reduceAdd, Nat.reduceSub, Nat.reduceLT, Nat.reduceLeDiff, Nat.reduceEqDiff, Int.reduceAdd, Int.reduceMul, Int.reduceNeg, Int.reducePow, Int.reduceLT, Int.reduceLE, and_self, and_true, true_and, if_true, if_false, ↓reduceIte, Bool.not_true, Bool.not_false, decide_true, decide_false, decide_eq_true_eq, List.all_cons, List.all_nil, Bool.and_true, Bool.true_and, Bool.and_self, wipeE, adPl, Int.reduceToNat, rng_5, abs_10]
theorem factor_p {n : Int} {p : List D} (h : Pk n p) (hn : n + 20 < 10 ^ 6) : ∃ v p', f__law_factor [.lst p] = .ret (.sh (.int v)) p' ∧ -(10 ^ 18) ≤ v ∧ v ≤ 10 ^ 18 ∧ Pk (n + 9) p' := by
  obtain ⟨v1, p1, e1, a1, b1, h1⟩ := take_p h (m := 10) (by omega) (by omega) (by omega)
  obtain ⟨v2, p2, e2, a2, b2, h2⟩ := take_p h1 (m := 1000) (by omega) (by omega) (by omega)
  obtain ⟨v3, p3, e3, a3, b3, h3⟩ := great_p h2 (by omega)
  obtain ⟨w, p4, e4, a4, b4, h4⟩ := take_p h3 (m := 4) (by omega) (by omega) (by omega)
  obtain ⟨v5, s, p5, e5, i5, s5, h5⟩ := sign_p h4 (by omega)
  obtain ⟨x, ix, x1, x2⟩ : ∃ x, L2.atI [D.int 0, D.int v1, D.int v2, D.int (v3 / 1000000000000)] w = some (.int x) ∧ 0 ≤ x ∧ x ≤ 10 ^ 18 := by
    rcases (show w = 0 ∨ w = 1 ∨ w = 2 ∨ w = 3 by omega) with rfl | rfl | rfl | rfl
    · exact ⟨_, rfl, by omega, by omega⟩
    · exact ⟨_, rfl, by omega, by omega⟩
    · exact ⟨_, rfl, by omega, by omega⟩
    · exact ⟨_, rfl, by omega, by omega⟩
  refine ⟨x * s, p5, ?_, by rcases s5 with rfl | rfl <;> omega, by rcases s5 with rfl | rfl <;> omega, h5.mono (by omega)⟩
  simp only [f__law_factor, F__law_factor, e_iEn, e_iEnK, e_enD, e_iZq, e_iZqK, e_zq_ll, e_zq_tt, e_zq_lt, e_zq_tl, e_asgT, e_asgTK, e_asgO, e_call0, List.reverse_cons, List.reverse_nil, e_cmpV, e_cvH, e_cvB, e_cvO, e_cvZ, e_join, e_jK1, e_jK2, e_len_s, e_whK_f, e_whK_t, e_whS, restE, List.getD_cons_zero, List.getD_cons_succ, List.getD_nil, d_pow_6, d_pow_12, d_pow_18, d_pow_30, e_OE_bind_ok, e_OE_bind_exc, e_OE_bindT_ok, e_OE_bindT_exc, e_OE_bindA_ok, e_OE_bindA_exc, e_OE_bindS_ok, e_OE_bindS_exc, e_OE_bindI_ok, e_OE_bindI_exc, e_OE_bindG_ok, e_OE_bindG_exc, e_OT_bind_ok, e_OT_bind_exc, e_OT_bindE_ok, e_OT_bindE_exc, e_OT_bindS_ok, e_OT_bindS_exc, e_OA_bind_ok, e_OA_bind_exc, e_OA_bindE_ok, e_OA_bindE_exc, e_OA_bindI_ok, e_OA_bindI_exc, e_OI_bindE_ok, e_OI_bindE_exc, e_OI_bindS_ok, e_OI_bindS_exc, e_OG_bind_ok, e_OG_bind_exc, e_OG_bindE_ok, e_OG_bindE_exc, e_seq_nx, e_seq_ret, e_seq_brk, e_seq_cnt, e_seq_exc, e_var, e_varK_sh, e_varK_ow, e_mv, e_mvK_sh, e_mvK_ow, e_c, e_okO, e_op2, e_opK1, e_opK2, e_un, e_unK, e_and, e_or, e_not, e_tru, e_andK_t, e_andK_f, e_orK_t, e_orK_f, e_notK, e_truK, e_if, e_tand, e_tor, e_tnot, e_sif, e_ifK_t, e_ifK_f, e_sifK_t, e_sifK_f, e_tandK_t, e_tandK_f, e_torK_t, e_torK_f, e_tnotK, e_nil, e_cons, e_consK1, e_consK2, e_tup, e_lst, e_cb, e_tupK, e_lstK, e_cbK, e_chain, e_chK1, e_chK2, e_chK3, e_chB_t, e_chB_f, e_ixV, e_ixH, e_ixVK, e_ixE_own, e_ixE_sh, e_atO, e_ownAt, e_ownS_ow, e_ownS_io, e_ownS_lst, e_ownS_tup, e_ownS_str, e_ownS_int, e_lenV, e_lenK_own, e_lenK_sh, e_here_no, e_noIo_no, e_Own_no, e_here_sh, e_noIo_sh, e_Own_sh, e_here_ow, e_noIo_ow, e_Own_ow, e_here_io, e_noIo_io, e_Own_io, e_fz_sh, e_fz_ow, e_sv_sh, e_sv_ow, e_ret, e_retK, e_retN, e_expr, e_exprK, e_pass, e_break, e_cont, e_asg, e_asgK, e_asgB, e_sseq, e_set, e_setK1, e_setB, e_setK2, e_setO, e_setJ, e_nxO, e_setOwn, e_soK_ow, e_soK_io, e_app, e_appB, e_appK, e_appO, e_par, e_parA, e_parK, e_okI, e_iVal, e_iValK, e_items_lst, e_items_tup, e_items_str, e_iZp, e_iZpK, e_zp_l, e_zp_t, e_iRv, e_iRvK, e_rv_l, e_rv_t, e_iRg1, e_iRg1K, e_rg1, e_iRg2, e_iRg2K, e_rg2, e_for, e_forK, e_for_nil, e_for_cons, e_forG, e_forS_nx, e_forS_cnt, e_forS_brk, e_forS_ret, e_forS_exc, e_gVar, e_gvB, e_gTup, e_gTupW, e_gCons, e_gNil, d_add_i, d_add_s, d_add_l, d_add_t, d_mul_i, d_mul_s, d_mul_l, d_fdiv, d_mod, d_pow, d_neg, d_iI, d_ord_i, d_ord_s, d_eq_i, d_eq_s, d_ne_i, d_ne_s, d_len_l, d_len_t, d_abs, d_gcd, d_max2, d_min2, d_tup_l, d_tup_t, d_ix_l, d_ix_t, d_atR, at_0, at_1, at_2, ixn_0, ixn_1, ixn_2, e_run, e_fin_ret, e_fin_nx, e_fin_exc, e_outR, e_outX, e_out_none, e_out_some, e_ioS, e_arg_none, e_arg_nil, e_arg_0, e_arg_s, e_ioD, e_call, e_calK1, e_calK2, e_calO_ret, e_calO_exc, e_callP, e_cpK, e_cpD, e_cpC_s, e_cpC_x, e_cpC_o, e_cpS, e_cpX, e_gnil, e_gv, e_gvK1, e_gvK2, e_gs, e_gsB, e_gsK, e_go, e_goK, e_ads_nil, e_ads_cons, e_adC, e_adC2, e_adD_v, e_adD_s, e_adD_o, e_adO, e_pi, e_piK, e_sl, e_slK1, e_slK2, e_slK3, e_slO, e_part_n, e_part_i, d_slice_l, d_slice_t, e_sl3, e_s3K1, e_s3K2, e_s3K3, e_s3K4, e_s3O, e_lc, e_lcK, e_lcB, e_lcR, e_yes, e_okW2, e_okWS_no, e_okWS_sh, eq_self, log_7, List.length_cons, List.length_nil, List.map_cons, List.map_nil, List.cons_append, List.nil_append, List.replicate_succ, List.replicate_zero, List.append_nil, List.getElem?_cons_zero, List.getElem?_cons_succ, List.getElem?_nil, List.set_cons_zero, List.set_cons_succ, Option.bind_some, Option.bind_none, Option.isSome_some, Nat.reduceAdd, Nat.reduceSub, Nat.reduceLT, Nat.reduceLeDiff, Nat.reduceEqDiff, Int.reduceAdd, Int.reduceMul, Int.reduceNeg, Int.reducePow, Int.reduceLT, Int.reduceLE, and_self, and_true, true_and, if_true, if_false, ↓reduceIte, Bool.not_true, Bool.not_false, decide_true, decide_false, decide_eq_true_eq, List.all_cons, List.all_nil, Bool.and_true, Bool.true_and, Bool.and_self, wipeE, adPl, Int.reduceToNat, rng_5, abs_10, e1, e2, e3]
  rw [if_pos (div_ok (by omega) (by omega)).2]
  simp only [e_iEn, e_iEnK, e_enD, e_iZq, e_iZqK, e_zq_ll, e_zq_tt, e_zq_lt, e_zq_tl, e_asgT, e_asgTK, e_asgO, e_call0, List.reverse_cons, List.reverse_nil, e_cmpV, e_cvH, e_cvB, e_cvO, e_cvZ, e_join, e_jK1, e_jK2, e_len_s, e_whK_f, e_whK_t, e_whS, restE, List.getD_cons_zero, List.getD_cons_succ, List.getD_nil, d_pow_6, d_pow_12, d_pow_18, d_pow_30, e_OE_bind_ok, e_OE_bind_exc, e_OE_bindT_ok, e_OE_bindT_exc, e_OE_bindA_ok, e_OE_bindA_exc, e_OE_bindS_ok, e_OE_bindS_exc, e_OE_bindI_ok, e_OE_bindI_exc, e_OE_bindG_ok, e_OE_bindG_exc, e_OT_bind_ok, e_OT_bind_exc, e_OT_bindE_ok, e_OT_bindE_exc, e_OT_bindS_ok, e_OT_bindS_exc, e_OA_bind_ok, e_OA_bind_exc, e_OA_bindE_ok, e_OA_bindE_exc, e_OA_bindI_ok, e_OA_bindI_exc, e_OI_bindE_ok, e_OI_bindE_exc, e_OI_bindS_ok, e_OI_bindS_exc, e_OG_bind_ok, e_OG_bind_exc, e_OG_bindE_ok, e_OG_bindE_exc, e_seq_nx, e_seq_ret, e_seq_brk, e_seq_cnt, e_seq_exc, e_var, e_varK_sh, e_varK_ow, e_mv, e_mvK_sh, e_mvK_ow, e_c, e_okO, e_op2, e_opK1, e_opK2, e_un, e_unK, e_and, e_or, e_not, e_tru, e_andK_t, e_andK_f, e_orK_t, e_orK_f, e_notK, e_truK, e_if, e_tand, e_tor, e_tnot, e_sif, e_ifK_t, e_ifK_f, e_sifK_t, e_sifK_f, e_tandK_t, e_tandK_f, e_torK_t, e_torK_f, e_tnotK, e_nil, e_cons, e_consK1, e_consK2, e_tup, e_lst, e_cb, e_tupK, e_lstK, e_cbK, e_chain, e_chK1, e_chK2, e_chK3, e_chB_t, e_chB_f, e_ixV, e_ixH, e_ixVK, e_ixE_own, e_ixE_sh, e_atO, e_ownAt, e_ownS_ow, e_ownS_io, e_ownS_lst, e_ownS_tup, e_ownS_str, e_ownS_int, e_lenV, e_lenK_own, e_lenK_sh, e_here_no, e_noIo_no, e_Own_no, e_here_sh, e_noIo_sh, e_Own_sh, e_here_ow, e_noIo_ow, e_Own_ow, e_here_io, e_noIo_io, e_Own_io, e_fz_sh, e_fz_ow, e_sv_sh, e_sv_ow, e_ret, e_retK, e_retN, e_expr, e_exprK, e_pass, e_break, e_cont, e_asg, e_asgK, e_asgB, e_sseq, e_set, e_setK1, e_setB, e_setK2, e_setO, e_setJ, e_nxO, e_setOwn, e_soK_ow, e_soK_io, e_app, e_appB, e_appK, e_appO, e_par, e_parA, e_parK, e_okI, e_iVal, e_iValK, e_items_lst, e_items_tup, e_items_str, e_iZp, e_iZpK, e_zp_l, e_zp_t, e_iRv, e_iRvK, e_rv_l, e_rv_t, e_iRg1, e_iRg1K, e_rg1, e_iRg2, e_iRg2K, e_rg2, e_for, e_forK, e_for_nil, e_for_cons, e_forG, e_forS_nx, e_forS_cnt, e_forS_brk, e_forS_ret, e_forS_exc, e_gVar, e_gvB, e_gTup, e_gTupW, e_gCons, e_gNil, d_add_i, d_add_s, d_add_l, d_add_t, d_mul_i, d_mul_s, d_mul_l, d_fdiv, d_mod, d_pow, d_neg, d_iI, d_ord_i, d_ord_s, d_eq_i, d_eq_s, d_ne_i, d_ne_s, d_len_l, d_len_t, d_abs, d_gcd, d_max2, d_min2, d_tup_l, d_tup_t, d_ix_l, d_ix_t, d_atR, at_0, at_1, at_2, ixn_0, ixn_1, ixn_2, e_run, e_fin_ret, e_fin_nx, e_fin_exc, e_outR, e_outX, e_out_none, e_out_some, e_ioS, e_arg_none, e_arg_nil, e_arg_0, e_arg_s, e_ioD, e_call, e_calK1, e_calK2, e_calO_ret, e_calO_exc, e_callP, e_cpK, e_cpD, e_cpC_s, e_cpC_x, e_cpC_o, e_cpS, e_cpX, e_gnil, e_gv, e_gvK1, e_gvK2, e_gs, e_gsB, e_gsK, e_go, e_goK, e_ads_nil, e_ads_cons, e_adC, e_adC2, e_adD_v, e_adD_s, e_adD_o, e_adO, e_pi, e_piK, e_sl, e_slK1, e_slK2, e_slK3, e_slO, e_part_n, e_part_i, d_slice_l, d_slice_t, e_sl3, e_s3K1, e_s3K2, e_s3K3, e_s3K4, e_s3O, e_lc, e_lcK, e_lcB, e_lcR, e_yes, e_okW2, e_okWS_no, e_okWS_sh, eq_self, log_7, List.length_cons, List.length_nil, List.map_cons, List.map_nil, List.cons_append, List.nil_append, List.replicate_succ, List.replicate_zero, List.append_nil, List.getElem?_cons_zero, List.getElem?_cons_succ, List.getElem?_nil, List.set_cons_zero, List.set_cons_succ, Option.bind_some, Option.bind_none, Option.isSome_some, Nat.reduceAdd, Nat.reduceSub, Nat.reduceLT, Nat.reduceLeDiff, Nat.reduceEqDiff, Int.reduceAdd, Int.reduceMul, Int.reduceNeg, Int.reducePow, Int.reduceLT, Int.reduceLE, and_self, and_true, true_and, if_true, if_false, ↓reduceIte, Bool.not_true, Bool.not_false, decide_true, decide_false, decide_eq_true_eq, List.all_cons, List.all_nil, Bool.and_true, Bool.true_and, Bool.and_self, wipeE, adPl, Int.reduceToNat, rng_5, abs_10, e4, e5, ix, i5]
  rw [if_pos (mul_ok (by omega) (by omega) (by omega) (by omega))]
  simp only [e_iEn, e_iEnK, e_enD, e_iZq, e_iZqK, e_zq_ll, e_zq_tt, e_zq_lt, e_zq_tl, e_asgT, e_asgTK, e_asgO, e_call0, List.reverse_cons, List.reverse_nil, e_cmpV, e_cvH, e_cvB, e_cvO, e_cvZ, e_join, e_jK1, e_jK2, e_len_s, e_whK_f, e_whK_t, e_whS, restE, List.getD_cons_zero, List.getD_cons_succ, List.getD_nil, d_pow_6, d_pow_12, d_pow_18, d_pow_30, e_OE_bind_ok, e_OE_bind_exc, e_OE_bindT_ok, e_OE_bindT_exc, e_OE_bindA_ok, e_OE_bindA_exc, e_OE_bindS_ok, e_OE_bindS_exc, e_OE_bindI_ok, e_OE_bindI_exc, e_OE_bindG_ok, e_OE_bindG_exc, e_OT_bind_ok, e_OT_bind_exc, e_OT_bindE_ok, e_OT_bindE_exc, e_OT_bindS_ok, e_OT_bindS_exc, e_OA_bind_ok, e_OA_bind_exc, e_OA_bindE_ok, e_OA_bindE_exc, e_OA_bindI_ok, e_OA_bindI_exc, e_OI_bindE_ok, e_OI_bindE_exc, e_OI_bindS_ok, e_OI_bindS_exc, e_OG_bind_ok, e_OG_bind_exc, e_OG_bindE_ok, e_OG_bindE_exc, e_seq_nx, e_seq_ret, e_seq_brk, e_seq_cnt, e_seq_exc, e_var, e_varK_sh, e_varK_ow, e_mv, e_mvK_sh, e_mvK_ow, e_c, e_okO, e_op2, e_opK1, e_opK2, e_un, e_unK, e_and, e_or, e_not, e_tru, e_andK_t, e_andK_f, e_orK_t, e_orK_f, e_notK, e_truK, e_if, e_tand, e_tor, e_tnot, e_sif, e_ifK_t, e_ifK_f, e_sifK_t, e_sifK_f, e_tandK_t, e_tandK_f, e_torK_t, e_torK_f, e_tnotK, e_nil, e_cons, e_consK1, e_consK2, e_tup, e_lst, e_cb, e_tupK, e_lstK, e_cbK, e_chain, e_chK1, e_chK2, e_chK3, e_chB_t, e_chB_f, e_ixV, e_ixH, e_ixVK, e_ixE_own, e_ixE_sh, e_atO, e_ownAt, e_ownS_ow, e_ownS_io, e_ownS_lst, e_ownS_tup, e_ownS_str, e_ownS_int, e_lenV, e_lenK_own, e_lenK_sh, e_here_no, e_noIo_no, e_Own_no, e_here_sh, e_noIo_sh, e_Own_sh, e_here_ow, e_noIo_ow, e_Own_ow, e_here_io, e_noIo_io, e_Own_io, e_fz_sh, e_fz_ow, e_sv_sh, e_sv_ow, e_ret, e_retK, e_retN, e_expr, e_exprK, e_pass, e_break, e_cont, e_asg, e_asgK, e_asgB, e_sseq, e_set, e_setK1, e_setB, e_setK2, e_setO, e_setJ, e_nxO, e_setOwn, e_soK_ow, e_soK_io, e_app, e_appB, e_appK, e_appO, e_par, e_parA, e_parK, e_okI, e_iVal, e_iValK, e_items_lst, e_items_tup, e_items_str, e_iZp, e_iZpK, e_zp_l, e_zp_t, e_iRv, e_iRvK, e_rv_l, e_rv_t, e_iRg1, e_iRg1K, e_rg1, e_iRg2, e_iRg2K, e_rg2, e_for, e_forK, e_for_nil, e_for_cons, e_forG, e_forS_nx, e_forS_cnt, e_forS_brk, e_forS_ret, e_forS_exc, e_gVar, e_gvB, e_gTup, e_gTupW, e_gCons, e_gNil, d_add_i, d_add_s, d_add_l, d_add_t, d_mul_i, d_mul_s, d_mul_l, d_fdiv, d_mod, d_pow, d_neg, d_iI, d_ord_i, d_ord_s, d_eq_i, d_eq_s, d_ne_i, d_ne_s, d_len_l, d_len_t, d_abs, d_gcd, d_max2, d_min2, d_tup_l, d_tup_t, d_ix_l, d_ix_t, d_atR, at_0, at_1, at_2, ixn_0, ixn_1, ixn_2, e_run, e_fin_ret, e_fin_nx, e_fin_exc, e_outR, e_outX, e_out_none, e_out_some, e_ioS, e_arg_none, e_arg_nil, e_arg_0, e_arg_s, e_ioD, e_call, e_calK1, e_calK2, e_calO_ret, e_calO_exc, e_callP, e_cpK, e_cpD, e_cpC_s, e_cpC_x, e_cpC_o, e_cpS, e_cpX, e_gnil, e_gv, e_gvK1, e_gvK2, e_gs, e_gsB, e_gsK, e_go, e_goK, e_ads_nil, e_ads_cons, e_adC, e_adC2, e_adD_v, e_adD_s, e_adD_o, e_adO, e_pi, e_piK, e_sl, e_slK1, e_slK2, e_slK3, e_slO, e_part_n, e_part_i, d_slice_l, d_slice_t, e_sl3, e_s3K1, e_s3K2, e_s3K3, e_s3K4, e_s3O, e_lc, e_lcK, e_lcB, e_lcR, e_yes, e_okW2, e_okWS_no, e_okWS_sh, eq_self, log_7, List.length_cons, List.length_nil, List.map_cons, List.map_nil, List.cons_append, List.nil_append, List.replicate_succ, List.replicate_zero, List.append_nil, List.getElem?_cons_zero, List.getElem?_cons_succ, List.getElem?_nil, List.set_cons_zero, List.set_cons_succ, Option.bind_some, Option.bind_none, Option.isSome_some, Nat.reduceAdd, Nat.reduceSub, Nat.reduceLT, Nat.reduceLeDiff, Nat.reduceEqDiff, Int.reduceAdd, Int.reduceMul, Int.reduceNeg, Int.reducePow, Int.reduceLT, Int.reduceLE, and_self, and_true, true_and, if_true, if_false, ↓reduceIte, Bool.not_true, Bool.not_false, decide_true, decide_false, decide_eq_true_eq, List.all_cons, List.all_nil, Bool.and_true, Bool.true_and, Bool.and_self, wipeE, adPl, Int.reduceToNat, rng_5, abs_10]
theorem common_wh : ∀ (n m k : Nat), k < n → whL n (oTru (oOp2 gtF (oVar 1) (oC (.int 0)))) (sPar 0 1 (oCons (oVar 1) (oCons (oOp2 modF (oVar 0) (oVar 1)) oNil))) [.sh (.int (m : Int)), .sh (.int (k : Int))] = .nx [.sh (.int ((Nat.gcd m k : Nat) : Int)), .sh (.int 0)]
  | 0, m, k, h => by omega
  | n + 1, m, 0, h => by
    rw [e_wh]
    have h0 : ¬ ((0 : Int) < ((0 : Nat) : Int)) := by omega
    simp only [e_iEn, e_iEnK, e_enD, e_iZq, e_iZqK, e_zq_ll, e_zq_tt, e_zq_lt, e_zq_tl, e_asgT, e_asgTK, e_asgO, e_call0, List.reverse_cons, List.reverse_nil, e_cmpV, e_cvH, e_cvB, e_cvO, e_cvZ, e_join, e_jK1, e_jK2, e_len_s, e_whK_f, e_whK_t, e_whS, restE, List.getD_cons_zero, List.getD_cons_succ, List.getD_nil, d_pow_6, d_pow_12, d_pow_18, d_pow_30, e_OE_bind_ok, e_OE_bind_exc, e_OE_bindT_ok, e_OE_bindT_exc, e_OE_bindA_ok, e_OE_bindA_exc, e_OE_bindS_ok, e_OE_bindS_exc, e_OE_bindI_ok, e_OE_bindI_exc, e_OE_bindG_ok, e_OE_bindG_exc, e_OT_bind_ok, e_OT_bind_exc, e_OT_bindE_ok, e_OT_bindE_exc, e_OT_bindS_ok, e_OT_bindS_exc, e_OA_bind_ok, e_OA_bind_exc, e_OA_bindE_ok, e_OA_bindE_exc, e_OA_bindI_ok, e_OA_bindI_exc, e_OI_bindE_ok, e_OI_bindE_exc, e_OI_bindS_ok, e_OI_bindS_exc, e_OG_bind_ok, e_OG_bind_exc, e_OG_bindE_ok, e_OG_bindE_exc, e_seq_nx, e_seq_ret, e_seq_brk, e_seq_cnt, e_seq_exc, e_var, e_varK_sh, e_varK_ow, e_mv, e_mvK_sh, e_mvK_ow, e_c, e_okO, e_op2, e_opK1, e_opK2, e_un, e_unK, e_and, e_or, e_not, e_tru, e_andK_t, e_andK_f, e_orK_t, e_orK_f, e_notK, e_truK, e_if, e_tand, e_tor, e_tnot, e_sif, e_ifK_t, e_ifK_f, e_sifK_t, e_sifK_f, e_tandK_t, e_tandK_f, e_torK_t, e_torK_f, e_tnotK, e_nil, e_cons, e_consK1, e_consK2, e_tup, e_lst, e_cb, e_tupK, e_lstK, e_cbK, e_chain, e_chK1, e_chK2, e_chK3, e_chB_t, e_chB_f, e_ixV, e_ixH, e_ixVK, e_ixE_own, e_ixE_sh, e_atO, e_ownAt, e_ownS_ow, e_ownS_io, e_ownS_lst, e_ownS_tup, e_ownS_str, e_ownS_int, e_lenV, e_lenK_own, e_lenK_sh, e_here_no, e_noIo_no, e_Own_no, e_here_sh, e_noIo_sh, e_Own_sh, e_here_ow, e_noIo_ow, e_Own_ow, e_here_io, e_noIo_io, e_Own_io, e_fz_sh, e_fz_ow, e_sv_sh, e_sv_ow, e_ret, e_retK, e_retN, e_expr, e_exprK, e_pass, e_break, e_cont, e_asg, e_asgK, e_asgB, e_sseq, e_set, e_setK1, e_setB, e_setK2, e_setO, e_setJ, e_nxO, e_setOwn, e_soK_ow, e_soK_io, e_app, e_appB, e_appK, e_appO, e_par, e_parA, e_parK, e_okI, e_iVal, e_iValK, e_items_lst, e_items_tup, e_items_str, e_iZp, e_iZpK, e_zp_l, e_zp_t, e_iRv, e_iRvK, e_rv_l, e_rv_t, e_iRg1, e_iRg1K, e_rg1, e_iRg2, e_iRg2K, e_rg2, e_for, e_forK, e_for_nil, e_for_cons, e_forG, e_forS_nx, e_forS_cnt, e_forS_brk, e_forS_ret, e_forS_exc, e_gVar, e_gvB, e_gTup, e_gTupW, e_gCons, e_gNil, d_add_i, d_add_s, d_add_l, d_add_t, d_mul_i, d_mul_s, d_mul_l, d_fdiv, d_mod, d_pow, d_neg, d_iI, d_ord_i, d_ord_s, d_eq_i, d_eq_s, d_ne_i, d_ne_s, d_len_l, d_len_t, d_abs, d_gcd, d_max2, d_min2, d_tup_l, d_tup_t, d_ix_l, d_ix_t, d_atR, at_0, at_1, at_2, ixn_0, ixn_1, ixn_2, e_run, e_fin_ret, e_fin_nx, e_fin_exc, e_outR, e_outX, e_out_none, e_out_some, e_ioS, e_arg_none, e_arg_nil, e_arg_0, e_arg_s, e_ioD, e_call, e_calK1, e_calK2, e_calO_ret, e_calO_exc, e_callP, e_cpK, e_cpD, e_cpC_s, e_cpC_x, e_cpC_o, e_cpS, e_cpX, e_gnil, e_gv, e_gvK1, e_gvK2, e_gs, e_gsB, e_gsK, e_go, e_goK, e_ads_nil, e_ads_cons, e_adC, e_adC2, e_adD_v, e_adD_s, e_adD_o, e_adO, e_pi, e_piK, e_sl, e_slK1, e_slK2, e_slK3, e_slO, e_part_n, e_part_i, d_slice_l, d_slice_t, e_sl3, e_s3K1, e_s3K2, e_s3K3, e_s3K4, e_s3O, e_lc, e_lcK, e_lcB, e_lcR, e_yes, e_okW2, e_okWS_no, e_okWS_sh, eq_self, log_7, List.length_cons, List.length_nil, List.map_cons, List.map_nil, List.cons_append, List.nil_append, List.replicate_succ, List.replicate_zero, List.append_nil, List.getElem?_cons_zero, List.getElem?_cons_succ, List.getElem?_nil, List.set_cons_zero, List.set_cons_succ, Option.bind_some, Option.bind_none, Option.isSome_some, Nat.reduceAdd, Nat.reduceSub, Nat.reduceLT, Nat.reduceLeDiff, Nat.reduceEqDiff, Int.reduceAdd, Int.reduceMul, Int.reduceNeg, Int.reducePow, Int.reduceLT, Int.reduceLE, and_self, and_true, true_and, if_true, if_false, ↓reduceIte, Bool.not_true, Bool.not_false, decide_true, decide_false, decide_eq_true_eq, List.all_cons, List.all_nil, Bool.and_true, Bool.true_and, Bool.and_self, wipeE, adPl, Int.reduceToNat, rng_5, abs_10, h0, Nat.gcd_zero_right]
    rfl
  | n + 1, m, k + 1, h => by
    rw [e_wh]
    have h0 : (0 : Int) < ((k + 1 : Nat) : Int) := by omega
    simp only [e_iEn, e_iEnK, e_enD, e_iZq, e_iZqK, e_zq_ll, e_zq_tt, e_zq_lt, e_zq_tl, e_asgT, e_asgTK, e_asgO, e_call0, List.reverse_cons, List.reverse_nil, e_cmpV, e_cvH, e_cvB, e_cvO, e_cvZ, e_join, e_jK1, e_jK2, e_len_s, e_whK_f, e_whK_t, e_whS, restE, List.getD_cons_zero, List.getD_cons_succ, List.getD_nil, d_pow_6, d_pow_12, d_pow_18, d_pow_30, e_OE_bind_ok, e_OE_bind_exc, e_OE_bindT_ok, e_OE_bindT_exc, e_OE_bindA_ok, e_OE_bindA_exc, e_OE_bindS_ok, e_OE_bindS_exc, e_OE_bindI_ok, e_OE_bindI_exc, e_OE_bindG_ok, e_OE_bindG_exc, e_OT_bind_ok, e_OT_bind_exc, e_OT_bindE_ok, e_OT_bindE_exc, e_OT_bindS_ok, e_OT_bindS_exc, e_OA_bind_ok, e_OA_bind_exc, e_OA_bindE_ok, e_OA_bindE_exc, e_OA_bindI_ok, e_OA_bindI_exc, e_OI_bindE_ok, e_OI_bindE_exc, e_OI_bindS_ok, e_OI_bindS_exc, e_OG_bind_ok, e_OG_bind_exc, e_OG_bindE_ok, e_OG_bindE_exc, e_seq_nx, e_seq_ret, e_seq_brk, e_seq_cnt, e_seq_exc, e_var, e_varK_sh, e_varK_ow, e_mv, e_mvK_sh, e_mvK_ow, e_c, e_okO, e_op2, e_opK1, e_opK2, e_un, e_unK, e_and, e_or, e_not, e_tru, e_andK_t, e_andK_f, e_orK_t, e_orK_f, e_notK, e_truK, e_if, e_tand, e_tor, e_tnot, e_sif, e_ifK_t, e_ifK_f, e_sifK_t, e_sifK_f, e_tandK_t, e_tandK_f, e_torK_t, e_torK_f, e_tnotK, e_nil, e_cons, e_consK1, e_consK2, e_tup, e_lst, e_cb, e_tupK, e_lstK, e_cbK, e_chain, e_chK1, e_chK2, e_chK3, e_chB_t, e_chB_f, e_ixV, e_ixH, e_ixVK, e_ixE_own, e_ixE_sh, e_atO, e_ownAt, e_ownS_ow, e_ownS_io, e_ownS_lst, e_ownS_tup, e_ownS_str, e_ownS_int, e_lenV, e_lenK_own, e_lenK_sh, e_here_no, e_noIo_no, e_Own_no, e_here_sh, e_noIo_sh, e_Own_sh, e_here_ow, e_noIo_ow, e_Own_ow, e_here_io, e_noIo_io, e_Own_io, e_fz_sh, e_fz_ow, e_sv_sh, e_sv_ow, e_ret, e_retK, e_retN, e_expr, e_exprK, e_pass, e_break, e_cont, e_asg, e_asgK, e_asgB, e_sseq, e_set, e_setK1, e_setB, e_setK2, e_setO, e_setJ, e_nxO, e_setOwn, e_soK_ow, e_soK_io, e_app, e_appB, e_appK, e_appO, e_par, e_parA, e_parK, e_okI, e_iVal, e_iValK, e_items_lst, e_items_tup, e_items_str, e_iZp, e_iZpK, e_zp_l, e_zp_t, e_iRv, e_iRvK, e_rv_l, e_rv_t, e_iRg1, e_iRg1K, e_rg1, e_iRg2, e_iRg2K, e_rg2, e_for, e_forK, e_for_nil, e_for_cons, e_forG, e_forS_nx, e_forS_cnt, e_forS_brk, e_forS_ret, e_forS_exc, e_gVar, e_gvB, e_gTup, e_gTupW, e_gCons, e_gNil, d_add_i, d_add_s, d_add_l, d_add_t, d_mul_i, d_mul_s, d_mul_l, d_fdiv, d_mod, d_pow, d_neg, d_iI, d_ord_i, d_ord_s, d_eq_i, d_eq_s, d_ne_i, d_ne_s, d_len_l, d_len_t, d_abs, d_gcd, d_max2, d_min2, d_tup_l, d_tup_t, d_ix_l, d_ix_t, d_atR, at_0, at_1, at_2, ixn_0, ixn_1, ixn_2, e_run, e_fin_ret, e_fin_nx, e_fin_exc, e_outR, e_outX, e_out_none, e_out_some, e_ioS, e_arg_none, e_arg_nil, e_arg_0, e_arg_s, e_ioD, e_call, e_calK1, e_calK2, e_calO_ret, e_calO_exc, e_callP, e_cpK, e_cpD, e_cpC_s, e_cpC_x, e_cpC_o, e_cpS, e_cpX, e_gnil, e_gv, e_gvK1, e_gvK2, e_gs, e_gsB, e_gsK, e_go, e_goK, e_ads_nil, e_ads_cons, e_adC, e_adC2, e_adD_v, e_adD_s, e_adD_o, e_adO, e_pi, e_piK, e_sl, e_slK1, e_slK2, e_slK3, e_slO, e_part_n, e_part_i, d_slice_l, d_slice_t, e_sl3, e_s3K1, e_s3K2, e_s3K3, e_s3K4, e_s3O, e_lc, e_lcK, e_lcB, e_lcR, e_yes, e_okW2, e_okWS_no, e_okWS_sh, eq_self, log_7, List.length_cons, List.length_nil, List.map_cons, List.map_nil, List.cons_append, List.nil_append, List.replicate_succ, List.replicate_zero, List.append_nil, List.getElem?_cons_zero, List.getElem?_cons_succ, List.getElem?_nil, List.set_cons_zero, List.set_cons_succ, Option.bind_some, Option.bind_none, Option.isSome_some, Nat.reduceAdd, Nat.reduceSub, Nat.reduceLT, Nat.reduceLeDiff, Nat.reduceEqDiff, Int.reduceAdd, Int.reduceMul, Int.reduceNeg, Int.reducePow, Int.reduceLT, Int.reduceLE, and_self, and_true, true_and, if_true, if_false, ↓reduceIte, Bool.not_true, Bool.not_false, decide_true, decide_false, decide_eq_true_eq, List.all_cons, List.all_nil, Bool.and_true, Bool.true_and, Bool.and_self, wipeE, adPl, Int.reduceToNat, rng_5, abs_10, h0]
    rw [← Int.natCast_emod, common_wh n (k + 1) (m % (k + 1)) (by have := Nat.mod_lt m (show 0 < k + 1 by omega); omega)]
    rw [Nat.gcd_comm (k + 1), ← Nat.gcd_rec, Nat.gcd_comm]
theorem common_p (m k : Nat) (hk : k ≤ 10 ^ 300) : f__law_common [.int (m : Int), .int (k : Int)] = .ret (.sh (.int ((Nat.gcd m k : Nat) : Int))) [] := by
  have h : k < 2 ^ 4000 := Nat.lt_of_le_of_lt hk (by decide +kernel)
  have e := common_wh (2 ^ 4000) m k h
  unfold f__law_common F__law_common sWhile
  generalize (2 ^ 4000 : Nat) = n at e
  simp only [e_iEn, e_iEnK, e_enD, e_iZq, e_iZqK, e_zq_ll, e_zq_tt, e_zq_lt, e_zq_tl, e_asgT, e_asgTK, e_asgO, e_call0, List.reverse_cons, List.reverse_nil, e_cmpV, e_cvH, e_cvB, e_cvO, e_cvZ, e_join, e_jK1, e_jK2, e_len_s, e_whK_f, e_whK_t, e_whS, restE, List.getD_cons_zero, List.getD_cons_succ, List.getD_nil, d_pow_6, d_pow_12, d_pow_18, d_pow_30, e_OE_bind_ok, e_OE_bind_exc, e_OE_bindT_ok, e_OE_bindT_exc, e_OE_bindA_ok, e_OE_bindA_exc, e_OE_bindS_ok, e_OE_bindS_exc, e_OE_bindI_ok, e_OE_bindI_exc, e_OE_bindG_ok, e_OE_bindG_exc, e_OT_bind_ok, e_OT_bind_exc, e_OT_bindE_ok, e_OT_bindE_exc, e_OT_bindS_ok, e_OT_bindS_exc, e_OA_bind_ok, e_OA_bind_exc, e_OA_bindE_ok, e_OA_bindE_exc, e_OA_bindI_ok, e_OA_bindI_exc, e_OI_bindE_ok, e_OI_bindE_exc, e_OI_bindS_ok, e_OI_bindS_exc, e_OG_bind_ok, e_OG_bind_exc, e_OG_bindE_ok, e_OG_bindE_exc, e_seq_nx, e_seq_ret, e_seq_brk, e_seq_cnt, e_seq_exc, e_var, e_varK_sh, e_varK_ow, e_mv, e_mvK_sh, e_mvK_ow, e_c, e_okO, e_op2, e_opK1, e_opK2, e_un, e_unK, e_and, e_or, e_not, e_tru, e_andK_t, e_andK_f, e_orK_t, e_orK_f, e_notK, e_truK, e_if, e_tand, e_tor, e_tnot, e_sif, e_ifK_t, e_ifK_f, e_sifK_t, e_sifK_f, e_tandK_t, e_tandK_f, e_torK_t, e_torK_f, e_tnotK, e_nil, e_cons, e_consK1, e_consK2, e_tup, e_lst, e_cb, e_tupK, e_lstK, e_cbK, e_chain, e_chK1, e_chK2, e_chK3, e_chB_t, e_chB_f, e_ixV, e_ixH, e_ixVK, e_ixE_own, e_ixE_sh, e_atO, e_ownAt, e_ownS_ow, e_ownS_io, e_ownS_lst, e_ownS_tup, e_ownS_str, e_ownS_int, e_lenV, e_lenK_own, e_lenK_sh, e_here_no, e_noIo_no, e_Own_no, e_here_sh, e_noIo_sh, e_Own_sh, e_here_ow, e_noIo_ow, e_Own_ow, e_here_io, e_noIo_io, e_Own_io, e_fz_sh, e_fz_ow, e_sv_sh, e_sv_ow, e_ret, e_retK, e_retN, e_expr, e_exprK, e_pass, e_break, e_cont, e_asg, e_asgK, e_asgB, e_sseq, e_set, e_setK1, e_setB, e_setK2, e_setO, e_setJ, e_nxO, e_setOwn, e_soK_ow, e_soK_io, e_app, e_appB, e_appK, e_appO, e_par, e_parA, e_parK, e_okI, e_iVal, e_iValK, e_items_lst, e_items_tup, e_items_str, e_iZp, e_iZpK, e_zp_l, e_zp_t, e_iRv, e_iRvK, e_rv_l, e_rv_t, e_iRg1, e_iRg1K, e_rg1, e_iRg2, e_iRg2K, e_rg2, e_for, e_forK, e_for_nil, e_for_cons, e_forG, e_forS_nx, e_forS_cnt, e_forS_brk, e_forS_ret, e_forS_exc, e_gVar, e_gvB, e_gTup, e_gTupW, e_gCons, e_gNil, d_add_i, d_add_s, d_add_l, d_add_t, d_mul_i, d_mul_s, d_mul_l, d_fdiv, d_mod, d_pow, d_neg, d_iI, d_ord_i, d_ord_s, d_eq_i, d_eq_s, d_ne_i, d_ne_s, d_len_l, d_len_t, d_abs, d_gcd, d_max2, d_min2, d_tup_l, d_tup_t, d_ix_l, d_ix_t, d_atR, at_0, at_1, at_2, ixn_0, ixn_1, ixn_2, e_run, e_fin_ret, e_fin_nx, e_fin_exc, e_outR, e_outX, e_out_none, e_out_some, e_ioS, e_arg_none, e_arg_nil, e_arg_0, e_arg_s, e_ioD, e_call, e_calK1, e_calK2, e_calO_ret, e_calO_exc, e_callP, e_cpK, e_cpD, e_cpC_s, e_cpC_x, e_cpC_o, e_cpS, e_cpX, e_gnil, e_gv, e_gvK1, e_gvK2, e_gs, e_gsB, e_gsK, e_go, e_goK, e_ads_nil, e_ads_cons, e_adC, e_adC2, e_adD_v, e_adD_s, e_adD_o, e_adO, e_pi, e_piK, e_sl, e_slK1, e_slK2, e_slK3, e_slO, e_part_n, e_part_i, d_slice_l, d_slice_t, e_sl3, e_s3K1, e_s3K2, e_s3K3, e_s3K4, e_s3O, e_lc, e_lcK, e_lcB, e_lcR, e_yes, e_okW2, e_okWS_no, e_okWS_sh, eq_self, log_7, List.length_cons, List.length_nil, List.map_cons, List.map_nil, List.cons_append, List.nil_append, List.replicate_succ, List.replicate_zero, List.append_nil, List.getElem?_cons_zero, List.getElem?_cons_succ, List.getElem?_nil, List.set_cons_zero, List.set_cons_succ, Option.bind_some, Option.bind_none, Option.isSome_some, Nat.reduceAdd, Nat.reduceSub, Nat.reduceLT, Nat.reduceLeDiff, Nat.reduceEqDiff, Int.reduceAdd, Int.reduceMul, Int.reduceNeg, Int.reducePow, Int.reduceLT, Int.reduceLE, and_self, and_true, true_and, if_true, if_false, ↓reduceIte, Bool.not_true, Bool.not_false, decide_true, decide_false, decide_eq_true_eq, List.all_cons, List.all_nil, Bool.and_true, Bool.true_and, Bool.and_self, wipeE, adPl, Int.reduceToNat, rng_5, abs_10, e]
theorem div_for : ∀ (ns : List Int) (d : Nat) (s0 s2 : SV), noIo (some s2) = true → ∃ s, noIo (some s) = true ∧ forL (gVar 2) (sAsg 1 (oCallB gcdF (oCons (oVar 1) (oCons (oVar 2) oNil)))) (intsL ns) [s0, .sh (.int (d : Int)), s2] = .nx [s0, .sh (.int ((gf d ns : Nat) : Int)), s]
  | [], d, s0, s2, h => ⟨s2, h, rfl⟩
  | n :: ns, d, s0, s2, h => by
    obtain ⟨s, h1, h2⟩ := div_for ns (Nat.gcd d n.natAbs) s0 (.sh (.int n)) rfl
    refine ⟨s, h1, ?_⟩
    show forL _ _ (.int n :: intsL ns) _ = _
    simp only [e_iEn, e_iEnK, e_enD, e_iZq, e_iZqK, e_zq_ll, e_zq_tt, e_zq_lt, e_zq_tl, e_asgT, e_asgTK, e_asgO, e_call0, List.reverse_cons, List.reverse_nil, e_cmpV, e_cvH, e_cvB, e_cvO, e_cvZ, e_join, e_jK1, e_jK2, e_len_s, e_whK_f, e_whK_t, e_whS, restE, List.getD_cons_zero, List.getD_cons_succ, List.getD_nil, d_pow_6, d_pow_12, d_pow_18, d_pow_30, e_OE_bind_ok, e_OE_bind_exc, e_OE_bindT_ok, e_OE_bindT_exc, e_OE_bindA_ok, e_OE_bindA_exc, e_OE_bindS_ok, e_OE_bindS_exc, e_OE_bindI_ok, e_OE_bindI_exc, e_OE_bindG_ok, e_OE_bindG_exc, e_OT_bind_ok, e_OT_bind_exc, e_OT_bindE_ok, e_OT_bindE_exc, e_OT_bindS_ok, e_OT_bindS_exc, e_OA_bind_ok, e_OA_bind_exc, e_OA_bindE_ok, e_OA_bindE_exc, e_OA_bindI_ok, e_OA_bindI_exc, e_OI_bindE_ok, e_OI_bindE_exc, e_OI_bindS_ok, e_OI_bindS_exc, e_OG_bind_ok, e_OG_bind_exc, e_OG_bindE_ok, e_OG_bindE_exc, e_seq_nx, e_seq_ret, e_seq_brk, e_seq_cnt, e_seq_exc, e_var, e_varK_sh, e_varK_ow, e_mv, e_mvK_sh, e_mvK_ow, e_c, e_okO, e_op2, e_opK1, e_opK2, e_un, e_unK, e_and, e_or, e_not, e_tru, e_andK_t, e_andK_f, e_orK_t, e_orK_f, e_notK, e_truK, e_if, e_tand, e_tor, e_tnot, e_sif, e_ifK_t, e_ifK_f, e_sifK_t, e_sifK_f, e_tandK_t, e_tandK_f, e_torK_t, e_torK_f, e_tnotK, e_nil, e_cons, e_consK1, e_consK2, e_tup, e_lst, e_cb, e_tupK, e_lstK, e_cbK, e_chain, e_chK1, e_chK2, e_chK3, e_chB_t, e_chB_f, e_ixV, e_ixH, e_ixVK, e_ixE_own, e_ixE_sh, e_atO, e_ownAt, e_ownS_ow, e_ownS_io, e_ownS_lst, e_ownS_tup, e_ownS_str, e_ownS_int, e_lenV, e_lenK_own, e_lenK_sh, e_here_no, e_noIo_no, e_Own_no, e_here_sh, e_noIo_sh, e_Own_sh, e_here_ow, e_noIo_ow, e_Own_ow, e_here_io, e_noIo_io, e_Own_io, e_fz_sh, e_fz_ow, e_sv_sh, e_sv_ow, e_ret, e_retK, e_retN, e_expr, e_exprK, e_pass, e_break, e_cont, e_asg, e_asgK, e_asgB, e_sseq, e_set, e_setK1, e_setB, e_setK2, e_setO, e_setJ, e_nxO, e_setOwn, e_soK_ow, e_soK_io, e_app, e_appB, e_appK, e_appO, e_par, e_parA, e_parK, e_okI, e_iVal, e_iValK, e_items_lst, e_items_tup, e_items_str, e_iZp, e_iZpK, e_zp_l, e_zp_t, e_iRv, e_iRvK, e_rv_l, e_rv_t, e_iRg1, e_iRg1K, e_rg1, e_iRg2, e_iRg2K, e_rg2, e_for, e_forK, e_for_nil, e_for_cons, e_forG, e_forS_nx, e_forS_cnt, e_forS_brk, e_forS_ret, e_forS_exc, e_gVar, e_gvB, e_gTup, e_gTupW, e_gCons, e_gNil, d_add_i, d_add_s, d_add_l, d_add_t, d_mul_i, d_mul_s, d_mul_l, d_fdiv, d_mod, d_pow, d_neg, d_iI, d_ord_i, d_ord_s, d_eq_i, d_eq_s, d_ne_i, d_ne_s, d_len_l, d_len_t, d_abs, d_gcd, d_max2, d_min2, d_tup_l, d_tup_t, d_ix_l, d_ix_t, d_atR, at_0, at_1, at_2, ixn_0, ixn_1, ixn_2, e_run, e_fin_ret, e_fin_nx, e_fin_exc, e_outR, e_outX, e_out_none, e_out_some, e_ioS, e_arg_none, e_arg_nil, e_arg_0, e_arg_s, e_ioD, e_call, e_calK1, e_calK2, e_calO_ret, e_calO_exc, e_callP, e_cpK, e_cpD, e_cpC_s, e_cpC_x, e_cpC_o, e_cpS, e_cpX, e_gnil, e_gv, e_gvK1, e_gvK2, e_gs, e_gsB, e_gsK, e_go, e_goK, e_ads_nil, e_ads_cons, e_adC, e_adC2, e_adD_v, e_adD_s, e_adD_o, e_adO, e_pi, e_piK, e_sl, e_slK1, e_slK2, e_slK3, e_slO, e_part_n, e_part_i, d_slice_l, d_slice_t, e_sl3, e_s3K1, e_s3K2, e_s3K3, e_s3K4, e_s3O, e_lc, e_lcK, e_lcB, e_lcR, e_yes, e_okW2, e_okWS_no, e_okWS_sh, eq_self, log_7, List.length_cons, List.length_nil, List.map_cons, List.map_nil, List.cons_append, List.nil_append, List.replicate_succ, List.replicate_zero, List.append_nil, List.getElem?_cons_zero, List.getElem?_cons_succ, List.getElem?_nil, List.set_cons_zero, List.set_cons_succ, Option.bind_some, Option.bind_none, Option.isSome_some, Nat.reduceAdd, Nat.reduceSub, Nat.reduceLT, Nat.reduceLeDiff, Nat.reduceEqDiff, Int.reduceAdd, Int.reduceMul, Int.reduceNeg, Int.reducePow, Int.reduceLT, Int.reduceLE, and_self, and_true, true_and, if_true, if_false, ↓reduceIte, Bool.not_true, Bool.not_false, decide_true, decide_false, decide_eq_true_eq, List.all_cons, List.all_nil, Bool.and_true, Bool.true_and, Bool.and_self, wipeE, adPl, Int.reduceToNat, rng_5, abs_10, h, Int.natAbs_natCast]
    exact h2
theorem cut_1 {α : Type} (x : α) (xs : List α) : cutL (x :: xs) (some 1) none = xs := by
  unfold cutL
  rw [show HT.sIx (x :: xs).length 0 (some 1) = min 1 (x :: xs).length from HT.sIx_nat _ 0 1, HT.sIx_none, List.length_cons, show min 1 (xs.length + 1) = 1 by omega]
  show xs.take _ = xs
  rw [Nat.add_sub_cancel, List.take_length]
theorem divisor_l (c : Int) (ns : List Int) : f_divisor_of [.lst (.int c :: intsL ns)] = .ret (.sh (.int ((gf 0 ns : Nat) : Int))) [] := by
  obtain ⟨s, h1, h2⟩ := div_for ns 0 (.sh (.lst (.int c :: intsL ns))) .no rfl
  simp only [f_divisor_of, F_divisor_of, e_iEn, e_iEnK, e_enD, e_iZq, e_iZqK, e_zq_ll, e_zq_tt, e_zq_lt, e_zq_tl, e_asgT, e_asgTK, e_asgO, e_call0, List.reverse_cons, List.reverse_nil, e_cmpV, e_cvH, e_cvB, e_cvO, e_cvZ, e_join, e_jK1, e_jK2, e_len_s, e_whK_f, e_whK_t, e_whS, restE, List.getD_cons_zero, List.getD_cons_succ, List.getD_nil, d_pow_6, d_pow_12, d_pow_18, d_pow_30, e_OE_bind_ok, e_OE_bind_exc, e_OE_bindT_ok, e_OE_bindT_exc, e_OE_bindA_ok, e_OE_bindA_exc, e_OE_bindS_ok, e_OE_bindS_exc, e_OE_bindI_ok, e_OE_bindI_exc, e_OE_bindG_ok, e_OE_bindG_exc, e_OT_bind_ok, e_OT_bind_exc, e_OT_bindE_ok, e_OT_bindE_exc, e_OT_bindS_ok, e_OT_bindS_exc, e_OA_bind_ok, e_OA_bind_exc, e_OA_bindE_ok, e_OA_bindE_exc, e_OA_bindI_ok, e_OA_bindI_exc, e_OI_bindE_ok, e_OI_bindE_exc, e_OI_bindS_ok, e_OI_bindS_exc, e_OG_bind_ok, e_OG_bind_exc, e_OG_bindE_ok, e_OG_bindE_exc, e_seq_nx, e_seq_ret, e_seq_brk, e_seq_cnt, e_seq_exc, e_var, e_varK_sh, e_varK_ow, e_mv, e_mvK_sh, e_mvK_ow, e_c, e_okO, e_op2, e_opK1, e_opK2, e_un, e_unK, e_and, e_or, e_not, e_tru, e_andK_t, e_andK_f, e_orK_t, e_orK_f, e_notK, e_truK, e_if, e_tand, e_tor, e_tnot, e_sif, e_ifK_t, e_ifK_f, e_sifK_t, e_sifK_f, e_tandK_t, e_tandK_f, e_torK_t, e_torK_f, e_tnotK, e_nil, e_cons, e_consK1, e_consK2, e_tup, e_lst, e_cb, e_tupK, e_lstK, e_cbK, e_chain, e_chK1, e_chK2, e_chK3, e_chB_t, e_chB_f, e_ixV, e_ixH, e_ixVK, e_ixE_own, e_ixE_sh, e_atO, e_ownAt, e_ownS_ow, e_ownS_io, e_ownS_lst, e_ownS_tup, e_ownS_str, e_ownS_int, e_lenV, e_lenK_own, e_lenK_sh, e_here_no, e_noIo_no, e_Own_no, e_here_sh, e_noIo_sh, e_Own_sh, e_here_ow, e_noIo_ow, e_Own_ow, e_here_io, e_noIo_io, e_Own_io, e_fz_sh, e_fz_ow, e_sv_sh, e_sv_ow, e_ret, e_retK, e_retN, e_expr, e_exprK, e_pass, e_break, e_cont, e_asg, e_asgK, e_asgB, e_sseq, e_set, e_setK1, e_setB, e_setK2, e_setO, e_setJ, e_nxO, e_setOwn, e_soK_ow, e_soK_io, e_app, e_appB, e_appK, e_appO, e_par, e_parA, e_parK, e_okI, e_iVal, e_iValK, e_items_lst, e_items_tup, e_items_str, e_iZp, e_iZpK, e_zp_l, e_zp_t, e_iRv, e_iRvK, e_rv_l, e_rv_t, e_iRg1, e_iRg1K, e_rg1, e_iRg2, e_iRg2K, e_rg2, e_for, e_forK, e_for_nil, e_for_cons, e_forG, e_forS_nx, e_forS_cnt, e_forS_brk, e_forS_ret, e_forS_exc, e_gVar, e_gvB, e_gTup, e_gTupW, e_gCons, e_gNil, d_add_i, d_add_s, d_add_l, d_add_t, d_mul_i, d_mul_s, d_mul_l, d_fdiv, d_mod, d_pow, d_neg, d_iI, d_ord_i, d_ord_s, d_eq_i, d_eq_s, d_ne_i, d_ne_s, d_len_l, d_len_t, d_abs, d_gcd, d_max2, d_min2, d_tup_l, d_tup_t, d_ix_l, d_ix_t, d_atR, at_0, at_1, at_2, ixn_0, ixn_1, ixn_2, e_run, e_fin_ret, e_fin_nx, e_fin_exc, e_outR, e_outX, e_out_none, e_out_some, e_ioS, e_arg_none, e_arg_nil, e_arg_0, e_arg_s, e_ioD, e_call, e_calK1, e_calK2, e_calO_ret, e_calO_exc, e_callP, e_cpK, e_cpD, e_cpC_s, e_cpC_x, e_cpC_o, e_cpS, e_cpX, e_gnil, e_gv, e_gvK1, e_gvK2, e_gs, e_gsB, e_gsK, e_go, e_goK, e_ads_nil, e_ads_cons, e_adC, e_adC2, e_adD_v, e_adD_s, e_adD_o, e_adO, e_pi, e_piK, e_sl, e_slK1, e_slK2, e_slK3, e_slO, e_part_n, e_part_i, d_slice_l, d_slice_t, e_sl3, e_s3K1, e_s3K2, e_s3K3, e_s3K4, e_s3O, e_lc, e_lcK, e_lcB, e_lcR, e_yes, e_okW2, e_okWS_no, e_okWS_sh, eq_self, log_7, List.length_cons, List.length_nil, List.map_cons, List.map_nil, List.cons_append, List.nil_append, List.replicate_succ, List.replicate_zero, List.append_nil, List.getElem?_cons_zero, List.getElem?_cons_succ, List.getElem?_nil, List.set_cons_zero, List.set_cons_succ, Option.bind_some, Option.bind_none, Option.isSome_some, Nat.reduceAdd, Nat.reduceSub, Nat.reduceLT, Nat.reduceLeDiff, Nat.reduceEqDiff, Int.reduceAdd, Int.reduceMul, Int.reduceNeg, Int.reducePow, Int.reduceLT, Int.reduceLE, and_self, and_true, true_and, if_true, if_false, ↓reduceIte, Bool.not_true, Bool.not_false, decide_true, decide_false, decide_eq_true_eq, List.all_cons, List.all_nil, Bool.and_true, Bool.true_and, Bool.and_self, wipeE, adPl, Int.reduceToNat, rng_5, abs_10, cut_1]
  rw [show ((0 : Nat) : Int) = 0 from rfl] at h2
  simp only [e_iEn, e_iEnK, e_enD, e_iZq, e_iZqK, e_zq_ll, e_zq_tt, e_zq_lt, e_zq_tl, e_asgT, e_asgTK, e_asgO, e_call0, List.reverse_cons, List.reverse_nil, e_cmpV, e_cvH, e_cvB, e_cvO, e_cvZ, e_join, e_jK1, e_jK2, e_len_s, e_whK_f, e_whK_t, e_whS, restE, List.getD_cons_zero, List.getD_cons_succ, List.getD_nil, d_pow_6, d_pow_12, d_pow_18, d_pow_30, e_OE_bind_ok, e_OE_bind_exc, e_OE_bindT_ok, e_OE_bindT_exc, e_OE_bindA_ok, e_OE_bindA_exc, e_OE_bindS_ok, e_OE_bindS_exc, e_OE_bindI_ok, e_OE_bindI_exc, e_OE_bindG_ok, e_OE_bindG_exc, e_OT_bind_ok, e_OT_bind_exc, e_OT_bindE_ok, e_OT_bindE_exc, e_OT_bindS_ok, e_OT_bindS_exc, e_OA_bind_ok, e_OA_bind_exc, e_OA_bindE_ok, e_OA_bindE_exc, e_OA_bindI_ok, e_OA_bindI_exc, e_OI_bindE_ok, e_OI_bindE_exc, e_OI_bindS_ok, e_OI_bindS_exc, e_OG_bind_ok, e_OG_bind_exc, e_OG_bindE_ok, e_OG_bindE_exc, e_seq_nx, e_seq_ret, e_seq_brk, e_seq_cnt, e_seq_exc, e_var, e_varK_sh, e_varK_ow, e_mv, e_mvK_sh, e_mvK_ow, e_c, e_okO, e_op2, e_opK1, e_opK2, e_un, e_unK, e_and, e_or, e_not, e_tru, e_andK_t, e_andK_f, e_orK_t, e_orK_f, e_notK, e_truK, e_if, e_tand, e_tor, e_tnot, e_sif, e_ifK_t, e_ifK_f, e_sifK_t, e_sifK_f, e_tandK_t, e_tandK_f, e_torK_t, e_torK_f, e_tnotK, e_nil, e_cons, e_consK1, e_consK2, e_tup, e_lst, e_cb, e_tupK, e_lstK, e_cbK, e_chain, e_chK1, e_chK2, e_chK3, e_chB_t, e_chB_f, e_ixV, e_ixH, e_ixVK, e_ixE_own, e_ixE_sh, e_atO, e_ownAt, e_ownS_ow, e_ownS_io, e_ownS_lst, e_ownS_tup, e_ownS_str, e_ownS_int, e_lenV, e_lenK_own, e_lenK_sh, e_here_no, e_noIo_no, e_Own_no, e_here_sh, e_noIo_sh, e_Own_sh, e_here_ow, e_noIo_ow, e_Own_ow, e_here_io, e_noIo_io, e_Own_io, e_fz_sh, e_fz_ow, e_sv_sh, e_sv_ow, e_ret, e_retK, e_retN, e_expr, e_exprK, e_pass, e_break, e_cont, e_asg, e_asgK, e_asgB, e_sseq, e_set, e_setK1, e_setB, e_setK2, e_setO, e_setJ, e_nxO, e_setOwn, e_soK_ow, e_soK_io, e_app, e_appB, e_appK, e_appO, e_par, e_parA, e_parK, e_okI, e_iVal, e_iValK, e_items_lst, e_items_tup, e_items_str, e_iZp, e_iZpK, e_zp_l, e_zp_t, e_iRv, e_iRvK, e_rv_l, e_rv_t, e_iRg1, e_iRg1K, e_rg1, e_iRg2, e_iRg2K, e_rg2, e_for, e_forK, e_for_nil, e_for_cons, e_forG, e_forS_nx, e_forS_cnt, e_forS_brk, e_forS_ret, e_forS_exc, e_gVar, e_gvB, e_gTup, e_gTupW, e_gCons, e_gNil, d_add_i, d_add_s, d_add_l, d_add_t, d_mul_i, d_mul_s, d_mul_l, d_fdiv, d_mod, d_pow, d_neg, d_iI, d_ord_i, d_ord_s, d_eq_i, d_eq_s, d_ne_i, d_ne_s, d_len_l, d_len_t, d_abs, d_gcd, d_max2, d_min2, d_tup_l, d_tup_t, d_ix_l, d_ix_t, d_atR, at_0, at_1, at_2, ixn_0, ixn_1, ixn_2, e_run, e_fin_ret, e_fin_nx, e_fin_exc, e_outR, e_outX, e_out_none, e_out_some, e_ioS, e_arg_none, e_arg_nil, e_arg_0, e_arg_s, e_ioD, e_call, e_calK1, e_calK2, e_calO_ret, e_calO_exc, e_callP, e_cpK, e_cpD, e_cpC_s, e_cpC_x, e_cpC_o, e_cpS, e_cpX, e_gnil, e_gv, e_gvK1, e_gvK2, e_gs, e_gsB, e_gsK, e_go, e_goK, e_ads_nil, e_ads_cons, e_adC, e_adC2, e_adD_v, e_adD_s, e_adD_o, e_adO, e_pi, e_piK, e_sl, e_slK1, e_slK2, e_slK3, e_slO, e_part_n, e_part_i, d_slice_l, d_slice_t, e_sl3, e_s3K1, e_s3K2, e_s3K3, e_s3K4, e_s3O, e_lc, e_lcK, e_lcB, e_lcR, e_yes, e_okW2, e_okWS_no, e_okWS_sh, eq_self, log_7, List.length_cons, List.length_nil, List.map_cons, List.map_nil, List.cons_append, List.nil_append, List.replicate_succ, List.replicate_zero, List.append_nil, List.getElem?_cons_zero, List.getElem?_cons_succ, List.getElem?_nil, List.set_cons_zero, List.set_cons_succ, Option.bind_some, Option.bind_none, Option.isSome_some, Nat.reduceAdd, Nat.reduceSub, Nat.reduceLT, Nat.reduceLeDiff, Nat.reduceEqDiff, Int.reduceAdd, Int.reduceMul, Int.reduceNeg, Int.reducePow, Int.reduceLT, Int.reduceLE, and_self, and_true, true_and, if_true, if_false, ↓reduceIte, Bool.not_true, Bool.not_false, decide_true, decide_false, decide_eq_true_eq, List.all_cons, List.all_nil, Bool.and_true, Bool.true_and, Bool.and_self, wipeE, adPl, Int.reduceToNat, rng_5, abs_10, h2]
theorem divisor_t (c : Int) (ns : List Int) : f_divisor_of [.tup (.int c :: intsL ns)] = .ret (.sh (.int ((gf 0 ns : Nat) : Int))) [] := by
  obtain ⟨s, h1, h2⟩ := div_for ns 0 (.sh (.tup (.int c :: intsL ns))) .no rfl
  simp only [f_divisor_of, F_divisor_of, e_iEn, e_iEnK, e_enD, e_iZq, e_iZqK, e_zq_ll, e_zq_tt, e_zq_lt, e_zq_tl, e_asgT, e_asgTK, e_asgO, e_call0, List.reverse_cons, List.reverse_nil, e_cmpV, e_cvH, e_cvB, e_cvO, e_cvZ, e_join, e_jK1, e_jK2, e_len_s, e_whK_f, e_whK_t, e_whS, restE, List.getD_cons_zero, List.getD_cons_succ, List.getD_nil, d_pow_6, d_pow_12, d_pow_18, d_pow_30, e_OE_bind_ok, e_OE_bind_exc, e_OE_bindT_ok, e_OE_bindT_exc, e_OE_bindA_ok, e_OE_bindA_exc, e_OE_bindS_ok, e_OE_bindS_exc, e_OE_bindI_ok, e_OE_bindI_exc, e_OE_bindG_ok, e_OE_bindG_exc, e_OT_bind_ok, e_OT_bind_exc, e_OT_bindE_ok, e_OT_bindE_exc, e_OT_bindS_ok, e_OT_bindS_exc, e_OA_bind_ok, e_OA_bind_exc, e_OA_bindE_ok, e_OA_bindE_exc, e_OA_bindI_ok, e_OA_bindI_exc, e_OI_bindE_ok, e_OI_bindE_exc, e_OI_bindS_ok, e_OI_bindS_exc, e_OG_bind_ok, e_OG_bind_exc, e_OG_bindE_ok, e_OG_bindE_exc, e_seq_nx, e_seq_ret, e_seq_brk, e_seq_cnt, e_seq_exc, e_var, e_varK_sh, e_varK_ow, e_mv, e_mvK_sh, e_mvK_ow, e_c, e_okO, e_op2, e_opK1, e_opK2, e_un, e_unK, e_and, e_or, e_not, e_tru, e_andK_t, e_andK_f, e_orK_t, e_orK_f, e_notK, e_truK, e_if, e_tand, e_tor, e_tnot, e_sif, e_ifK_t, e_ifK_f, e_sifK_t, e_sifK_f, e_tandK_t, e_tandK_f, e_torK_t, e_torK_f, e_tnotK, e_nil, e_cons, e_consK1, e_consK2, e_tup, e_lst, e_cb, e_tupK, e_lstK, e_cbK, e_chain, e_chK1, e_chK2, e_chK3, e_chB_t, e_chB_f, e_ixV, e_ixH, e_ixVK, e_ixE_own, e_ixE_sh, e_atO, e_ownAt, e_ownS_ow, e_ownS_io, e_ownS_lst, e_ownS_tup, e_ownS_str, e_ownS_int, e_lenV, e_lenK_own, e_lenK_sh, e_here_no, e_noIo_no, e_Own_no, e_here_sh, e_noIo_sh, e_Own_sh, e_here_ow, e_noIo_ow, e_Own_ow, e_here_io, e_noIo_io, e_Own_io, e_fz_sh, e_fz_ow, e_sv_sh, e_sv_ow, e_ret, e_retK, e_retN, e_expr, e_exprK, e_pass, e_break, e_cont, e_asg, e_asgK, e_asgB, e_sseq, e_set, e_setK1, e_setB, e_setK2, e_setO, e_setJ, e_nxO, e_setOwn, e_soK_ow, e_soK_io, e_app, e_appB, e_appK, e_appO, e_par, e_parA, e_parK, e_okI, e_iVal, e_iValK, e_items_lst, e_items_tup, e_items_str, e_iZp, e_iZpK, e_zp_l, e_zp_t, e_iRv, e_iRvK, e_rv_l, e_rv_t, e_iRg1, e_iRg1K, e_rg1, e_iRg2, e_iRg2K, e_rg2, e_for, e_forK, e_for_nil, e_for_cons, e_forG, e_forS_nx, e_forS_cnt, e_forS_brk, e_forS_ret, e_forS_exc, e_gVar, e_gvB, e_gTup, e_gTupW, e_gCons, e_gNil, d_add_i, d_add_s, d_add_l, d_add_t, d_mul_i, d_mul_s, d_mul_l, d_fdiv, d_mod, d_pow, d_neg, d_iI, d_ord_i, d_ord_s, d_eq_i, d_eq_s, d_ne_i, d_ne_s, d_len_l, d_len_t, d_abs, d_gcd, d_max2, d_min2, d_tup_l, d_tup_t, d_ix_l, d_ix_t, d_atR, at_0, at_1, at_2, ixn_0, ixn_1, ixn_2, e_run, e_fin_ret, e_fin_nx, e_fin_exc, e_outR, e_outX, e_out_none, e_out_some, e_ioS, e_arg_none, e_arg_nil, e_arg_0, e_arg_s, e_ioD, e_call, e_calK1, e_calK2, e_calO_ret, e_calO_exc, e_callP, e_cpK, e_cpD, e_cpC_s, e_cpC_x, e_cpC_o, e_cpS, e_cpX, e_gnil, e_gv, e_gvK1, e_gvK2, e_gs, e_gsB, e_gsK, e_go, e_goK, e_ads_nil, e_ads_cons, e_adC, e_adC2, e_adD_v, e_adD_s, e_adD_o, e_adO, e_pi, e_piK, e_sl, e_slK1, e_slK2, e_slK3, e_slO, e_part_n, e_part_i, d_slice_l, d_slice_t, e_sl3, e_s3K1, e_s3K2, e_s3K3, e_s3K4, e_s3O, e_lc, e_lcK, e_lcB, e_lcR, e_yes, e_okW2, e_okWS_no, e_okWS_sh, eq_self, log_7, List.length_cons, List.length_nil, List.map_cons, List.map_nil, List.cons_append, List.nil_append, List.replicate_succ, List.replicate_zero, List.append_nil, List.getElem?_cons_zero, List.getElem?_cons_succ, List.getElem?_nil, List.set_cons_zero, List.set_cons_succ, Option.bind_some, Option.bind_none, Option.isSome_some, Nat.reduceAdd, Nat.reduceSub, Nat.reduceLT, Nat.reduceLeDiff, Nat.reduceEqDiff, Int.reduceAdd, Int.reduceMul, Int.reduceNeg, Int.reducePow, Int.reduceLT, Int.reduceLE, and_self, and_true, true_and, if_true, if_false, ↓reduceIte, Bool.not_true, Bool.not_false, decide_true, decide_false, decide_eq_true_eq, List.all_cons, List.all_nil, Bool.and_true, Bool.true_and, Bool.and_self, wipeE, adPl, Int.reduceToNat, rng_5, abs_10, cut_1]
  rw [show ((0 : Nat) : Int) = 0 from rfl] at h2
  simp only [e_iEn, e_iEnK, e_enD, e_iZq, e_iZqK, e_zq_ll, e_zq_tt, e_zq_lt, e_zq_tl, e_asgT, e_asgTK, e_asgO, e_call0, List.reverse_cons, List.reverse_nil, e_cmpV, e_cvH, e_cvB, e_cvO, e_cvZ, e_join, e_jK1, e_jK2, e_len_s, e_whK_f, e_whK_t, e_whS, restE, List.getD_cons_zero, List.getD_cons_succ, List.getD_nil, d_pow_6, d_pow_12, d_pow_18, d_pow_30, e_OE_bind_ok, e_OE_bind_exc, e_OE_bindT_ok, e_OE_bindT_exc, e_OE_bindA_ok, e_OE_bindA_exc, e_OE_bindS_ok, e_OE_bindS_exc, e_OE_bindI_ok, e_OE_bindI_exc, e_OE_bindG_ok, e_OE_bindG_exc, e_OT_bind_ok, e_OT_bind_exc, e_OT_bindE_ok, e_OT_bindE_exc, e_OT_bindS_ok, e_OT_bindS_exc, e_OA_bind_ok, e_OA_bind_exc, e_OA_bindE_ok, e_OA_bindE_exc, e_OA_bindI_ok, e_OA_bindI_exc, e_OI_bindE_ok, e_OI_bindE_exc, e_OI_bindS_ok, e_OI_bindS_exc, e_OG_bind_ok, e_OG_bind_exc, e_OG_bindE_ok, e_OG_bindE_exc, e_seq_nx, e_seq_ret, e_seq_brk, e_seq_cnt, e_seq_exc, e_var, e_varK_sh, e_varK_ow, e_mv, e_mvK_sh, e_mvK_ow, e_c, e_okO, e_op2, e_opK1, e_opK2, e_un, e_unK, e_and, e_or, e_not, e_tru, e_andK_t, e_andK_f, e_orK_t, e_orK_f, e_notK, e_truK, e_if, e_tand, e_tor, e_tnot, e_sif, e_ifK_t, e_ifK_f, e_sifK_t, e_sifK_f, e_tandK_t, e_tandK_f, e_torK_t, e_torK_f, e_tnotK, e_nil, e_cons, e_consK1, e_consK2, e_tup, e_lst, e_cb, e_tupK, e_lstK, e_cbK, e_chain, e_chK1, e_chK2, e_chK3, e_chB_t, e_chB_f, e_ixV, e_ixH, e_ixVK, e_ixE_own, e_ixE_sh, e_atO, e_ownAt, e_ownS_ow, e_ownS_io, e_ownS_lst, e_ownS_tup, e_ownS_str, e_ownS_int, e_lenV, e_lenK_own, e_lenK_sh, e_here_no, e_noIo_no, e_Own_no, e_here_sh, e_noIo_sh, e_Own_sh, e_here_ow, e_noIo_ow, e_Own_ow, e_here_io, e_noIo_io, e_Own_io, e_fz_sh, e_fz_ow, e_sv_sh, e_sv_ow, e_ret, e_retK, e_retN, e_expr, e_exprK, e_pass, e_break, e_cont, e_asg, e_asgK, e_asgB, e_sseq, e_set, e_setK1, e_setB, e_setK2, e_setO, e_setJ, e_nxO, e_setOwn, e_soK_ow, e_soK_io, e_app, e_appB, e_appK, e_appO, e_par, e_parA, e_parK, e_okI, e_iVal, e_iValK, e_items_lst, e_items_tup, e_items_str, e_iZp, e_iZpK, e_zp_l, e_zp_t, e_iRv, e_iRvK, e_rv_l, e_rv_t, e_iRg1, e_iRg1K, e_rg1, e_iRg2, e_iRg2K, e_rg2, e_for, e_forK, e_for_nil, e_for_cons, e_forG, e_forS_nx, e_forS_cnt, e_forS_brk, e_forS_ret, e_forS_exc, e_gVar, e_gvB, e_gTup, e_gTupW, e_gCons, e_gNil, d_add_i, d_add_s, d_add_l, d_add_t, d_mul_i, d_mul_s, d_mul_l, d_fdiv, d_mod, d_pow, d_neg, d_iI, d_ord_i, d_ord_s, d_eq_i, d_eq_s, d_ne_i, d_ne_s, d_len_l, d_len_t, d_abs, d_gcd, d_max2, d_min2, d_tup_l, d_tup_t, d_ix_l, d_ix_t, d_atR, at_0, at_1, at_2, ixn_0, ixn_1, ixn_2, e_run, e_fin_ret, e_fin_nx, e_fin_exc, e_outR, e_outX, e_out_none, e_out_some, e_ioS, e_arg_none, e_arg_nil, e_arg_0, e_arg_s, e_ioD, e_call, e_calK1, e_calK2, e_calO_ret, e_calO_exc, e_callP, e_cpK, e_cpD, e_cpC_s, e_cpC_x, e_cpC_o, e_cpS, e_cpX, e_gnil, e_gv, e_gvK1, e_gvK2, e_gs, e_gsB, e_gsK, e_go, e_goK, e_ads_nil, e_ads_cons, e_adC, e_adC2, e_adD_v, e_adD_s, e_adD_o, e_adO, e_pi, e_piK, e_sl, e_slK1, e_slK2, e_slK3, e_slO, e_part_n, e_part_i, d_slice_l, d_slice_t, e_sl3, e_s3K1, e_s3K2, e_s3K3, e_s3K4, e_s3O, e_lc, e_lcK, e_lcB, e_lcR, e_yes, e_okW2, e_okWS_no, e_okWS_sh, eq_self, log_7, List.length_cons, List.length_nil, List.map_cons, List.map_nil, List.cons_append, List.nil_append, List.replicate_succ, List.replicate_zero, List.append_nil, List.getElem?_cons_zero, List.getElem?_cons_succ, List.getElem?_nil, List.set_cons_zero, List.set_cons_succ, Option.bind_some, Option.bind_none, Option.isSome_some, Nat.reduceAdd, Nat.reduceSub, Nat.reduceLT, Nat.reduceLeDiff, Nat.reduceEqDiff, Int.reduceAdd, Int.reduceMul, Int.reduceNeg, Int.reducePow, Int.reduceLT, Int.reduceLE, and_self, and_true, true_and, if_true, if_false, ↓reduceIte, Bool.not_true, Bool.not_false, decide_true, decide_false, decide_eq_true_eq, List.all_cons, List.all_nil, Bool.and_true, Bool.true_and, Bool.and_self, wipeE, adPl, Int.reduceToNat, rng_5, abs_10, h2]
theorem pool_p (cs : List Int) (k : Nat) (hk : k < 8) : ∃ p, f__law_pool [.lst (intsL cs), .int (k : Int)] = .ret (.ow p) [] ∧ Pk (10 ^ 5) p := by
  have hm : ∀ x : Int, ∃ p, (∃ y, p = [.int (mx 0 (x - 1000000000000000000)), .int (x % 1000000007), .int y] ∧ y = 7919 * (k : Int) + 1) ∧ Pk (10 ^ 5) p := fun x => ⟨_, ⟨_, rfl, rfl⟩, _, _, _, rfl, by unfold mx; split <;> omega, by omega, by omega, by omega, by omega⟩
  by_cases h : (k : Int) < (cs.length : Int)
  · have hc : k < cs.length := by omega
    obtain ⟨p, ⟨y, rfl, rfl⟩, hp⟩ := hm cs[k]
    refine ⟨_, ?_, hp⟩
    have e : L2.atI (intsL cs) (k : Int) = some (.int cs[k]) := by
      unfold L2.atI L2.ixN intsL
      rw [if_pos (by omega), if_pos (by rw [List.length_map]; omega)]
      show (cs.map D.int)[(k : Int).toNat]? = _
      rw [Int.toNat_natCast, List.getElem?_map, List.getElem?_eq_getElem hc]
      rfl
    have hl : ((intsL cs).length : Int) = cs.length := by unfold intsL; rw [List.length_map]
    simp only [f__law_pool, F__law_pool, e_iEn, e_iEnK, e_enD, e_iZq, e_iZqK, e_zq_ll, e_zq_tt, e_zq_lt, e_zq_tl, e_asgT, e_asgTK, e_asgO, e_call0, List.reverse_cons, List.reverse_nil, e_cmpV, e_cvH, e_cvB, e_cvO, e_cvZ, e_join, e_jK1, e_jK2, e_len_s, e_whK_f, e_whK_t, e_whS, restE, List.getD_cons_zero, List.getD_cons_succ, List.getD_nil, d_pow_6, d_pow_12, d_pow_18, d_pow_30, e_OE_bind_ok, e_OE_bind_exc, e_OE_bindT_ok, e_OE_bindT_exc, e_OE_bindA_ok, e_OE_bindA_exc, e_OE_bindS_ok, e_OE_bindS_exc, e_OE_bindI_ok, e_OE_bindI_exc, e_OE_bindG_ok, e_OE_bindG_exc, e_OT_bind_ok, e_OT_bind_exc, e_OT_bindE_ok, e_OT_bindE_exc, e_OT_bindS_ok, e_OT_bindS_exc, e_OA_bind_ok, e_OA_bind_exc, e_OA_bindE_ok, e_OA_bindE_exc, e_OA_bindI_ok, e_OA_bindI_exc, e_OI_bindE_ok, e_OI_bindE_exc, e_OI_bindS_ok, e_OI_bindS_exc, e_OG_bind_ok, e_OG_bind_exc, e_OG_bindE_ok, e_OG_bindE_exc, e_seq_nx, e_seq_ret, e_seq_brk, e_seq_cnt, e_seq_exc, e_var, e_varK_sh, e_varK_ow, e_mv, e_mvK_sh, e_mvK_ow, e_c, e_okO, e_op2, e_opK1, e_opK2, e_un, e_unK, e_and, e_or, e_not, e_tru, e_andK_t, e_andK_f, e_orK_t, e_orK_f, e_notK, e_truK, e_if, e_tand, e_tor, e_tnot, e_sif, e_ifK_t, e_ifK_f, e_sifK_t, e_sifK_f, e_tandK_t, e_tandK_f, e_torK_t, e_torK_f, e_tnotK, e_nil, e_cons, e_consK1, e_consK2, e_tup, e_lst, e_cb, e_tupK, e_lstK, e_cbK, e_chain, e_chK1, e_chK2, e_chK3, e_chB_t, e_chB_f, e_ixV, e_ixH, e_ixVK, e_ixE_own, e_ixE_sh, e_atO, e_ownAt, e_ownS_ow, e_ownS_io, e_ownS_lst, e_ownS_tup, e_ownS_str, e_ownS_int, e_lenV, e_lenK_own, e_lenK_sh, e_here_no, e_noIo_no, e_Own_no, e_here_sh, e_noIo_sh, e_Own_sh, e_here_ow, e_noIo_ow, e_Own_ow, e_here_io, e_noIo_io, e_Own_io, e_fz_sh, e_fz_ow, e_sv_sh, e_sv_ow, e_ret, e_retK, e_retN, e_expr, e_exprK, e_pass, e_break, e_cont, e_asg, e_asgK, e_asgB, e_sseq, e_set, e_setK1, e_setB, e_setK2, e_setO, e_setJ, e_nxO, e_setOwn, e_soK_ow, e_soK_io, e_app, e_appB, e_appK, e_appO, e_par, e_parA, e_parK, e_okI, e_iVal, e_iValK, e_items_lst, e_items_tup, e_items_str, e_iZp, e_iZpK, e_zp_l, e_zp_t, e_iRv, e_iRvK, e_rv_l, e_rv_t, e_iRg1, e_iRg1K, e_rg1, e_iRg2, e_iRg2K, e_rg2, e_for, e_forK, e_for_nil, e_for_cons, e_forG, e_forS_nx, e_forS_cnt, e_forS_brk, e_forS_ret, e_forS_exc, e_gVar, e_gvB, e_gTup, e_gTupW, e_gCons, e_gNil, d_add_i, d_add_s, d_add_l, d_add_t, d_mul_i, d_mul_s, d_mul_l, d_fdiv, d_mod, d_pow, d_neg, d_iI, d_ord_i, d_ord_s, d_eq_i, d_eq_s, d_ne_i, d_ne_s, d_len_l, d_len_t, d_abs, d_gcd, d_max2, d_min2, d_tup_l, d_tup_t, d_ix_l, d_ix_t, d_atR, at_0, at_1, at_2, ixn_0, ixn_1, ixn_2, e_run, e_fin_ret, e_fin_nx, e_fin_exc, e_outR, e_outX, e_out_none, e_out_some, e_ioS, e_arg_none, e_arg_nil, e_arg_0, e_arg_s, e_ioD, e_call, e_calK1, e_calK2, e_calO_ret, e_calO_exc, e_callP, e_cpK, e_cpD, e_cpC_s, e_cpC_x, e_cpC_o, e_cpS, e_cpX, e_gnil, e_gv, e_gvK1, e_gvK2, e_gs, e_gsB, e_gsK, e_go, e_goK, e_ads_nil, e_ads_cons, e_adC, e_adC2, e_adD_v, e_adD_s, e_adD_o, e_adO, e_pi, e_piK, e_sl, e_slK1, e_slK2, e_slK3, e_slO, e_part_n, e_part_i, d_slice_l, d_slice_t, e_sl3, e_s3K1, e_s3K2, e_s3K3, e_s3K4, e_s3O, e_lc, e_lcK, e_lcB, e_lcR, e_yes, e_okW2, e_okWS_no, e_okWS_sh, eq_self, log_7, List.length_cons, List.length_nil, List.map_cons, List.map_nil, List.cons_append, List.nil_append, List.replicate_succ, List.replicate_zero, List.append_nil, List.getElem?_cons_zero, List.getElem?_cons_succ, List.getElem?_nil, List.set_cons_zero, List.set_cons_succ, Option.bind_some, Option.bind_none, Option.isSome_some, Nat.reduceAdd, Nat.reduceSub, Nat.reduceLT, Nat.reduceLeDiff, Nat.reduceEqDiff, Int.reduceAdd, Int.reduceMul, Int.reduceNeg, Int.reducePow, Int.reduceLT, Int.reduceLE, and_self, and_true, true_and, if_true, if_false, ↓reduceIte, Bool.not_true, Bool.not_false, decide_true, decide_false, decide_eq_true_eq, List.all_cons, List.all_nil, Bool.and_true, Bool.true_and, Bool.and_self, wipeE, adPl, Int.reduceToNat, rng_5, abs_10, h, e, hl]
    rw [if_pos (mul_ok (by omega) (by omega) (by omega) (by omega))]
    simp only [e_iEn, e_iEnK, e_enD, e_iZq, e_iZqK, e_zq_ll, e_zq_tt, e_zq_lt, e_zq_tl, e_asgT, e_asgTK, e_asgO, e_call0, List.reverse_cons, List.reverse_nil, e_cmpV, e_cvH, e_cvB, e_cvO, e_cvZ, e_join, e_jK1, e_jK2, e_len_s, e_whK_f, e_whK_t, e_whS, restE, List.getD_cons_zero, List.getD_cons_succ, List.getD_nil, d_pow_6, d_pow_12, d_pow_18, d_pow_30, e_OE_bind_ok, e_OE_bind_exc, e_OE_bindT_ok, e_OE_bindT_exc, e_OE_bindA_ok, e_OE_bindA_exc, e_OE_bindS_ok, e_OE_bindS_exc, e_OE_bindI_ok, e_OE_bindI_exc, e_OE_bindG_ok, e_OE_bindG_exc, e_OT_bind_ok, e_OT_bind_exc, e_OT_bindE_ok, e_OT_bindE_exc, e_OT_bindS_ok, e_OT_bindS_exc, e_OA_bind_ok, e_OA_bind_exc, e_OA_bindE_ok, e_OA_bindE_exc, e_OA_bindI_ok, e_OA_bindI_exc, e_OI_bindE_ok, e_OI_bindE_exc, e_OI_bindS_ok, e_OI_bindS_exc, e_OG_bind_ok, e_OG_bind_exc, e_OG_bindE_ok, e_OG_bindE_exc, e_seq_nx, e_seq_ret, e_seq_brk, e_seq_cnt, e_seq_exc, e_var, e_varK_sh, e_varK_ow, e_mv, e_mvK_sh, e_mvK_ow, e_c, e_okO, e_op2, e_opK1, e_opK2, e_un, e_unK, e_and, e_or, e_not, e_tru, e_andK_t, e_andK_f, e_orK_t, e_orK_f, e_notK, e_truK, e_if, e_tand, e_tor, e_tnot, e_sif, e_ifK_t, e_ifK_f, e_sifK_t, e_sifK_f, e_tandK_t, e_tandK_f, e_torK_t, e_torK_f, e_tnotK, e_nil, e_cons, e_consK1, e_consK2, e_tup, e_lst, e_cb, e_tupK, e_lstK, e_cbK, e_chain, e_chK1, e_chK2, e_chK3, e_chB_t, e_chB_f, e_ixV, e_ixH, e_ixVK, e_ixE_own, e_ixE_sh, e_atO, e_ownAt, e_ownS_ow, e_ownS_io, e_ownS_lst, e_ownS_tup, e_ownS_str, e_ownS_int, e_lenV, e_lenK_own, e_lenK_sh, e_here_no, e_noIo_no, e_Own_no, e_here_sh, e_noIo_sh, e_Own_sh, e_here_ow, e_noIo_ow, e_Own_ow, e_here_io, e_noIo_io, e_Own_io, e_fz_sh, e_fz_ow, e_sv_sh, e_sv_ow, e_ret, e_retK, e_retN, e_expr, e_exprK, e_pass, e_break, e_cont, e_asg, e_asgK, e_asgB, e_sseq, e_set, e_setK1, e_setB, e_setK2, e_setO, e_setJ, e_nxO, e_setOwn, e_soK_ow, e_soK_io, e_app, e_appB, e_appK, e_appO, e_par, e_parA, e_parK, e_okI, e_iVal, e_iValK, e_items_lst, e_items_tup, e_items_str, e_iZp, e_iZpK, e_zp_l, e_zp_t, e_iRv, e_iRvK, e_rv_l, e_rv_t, e_iRg1, e_iRg1K, e_rg1, e_iRg2, e_iRg2K, e_rg2, e_for, e_forK, e_for_nil, e_for_cons, e_forG, e_forS_nx, e_forS_cnt, e_forS_brk, e_forS_ret, e_forS_exc, e_gVar, e_gvB, e_gTup, e_gTupW, e_gCons, e_gNil, d_add_i, d_add_s, d_add_l, d_add_t, d_mul_i, d_mul_s, d_mul_l, d_fdiv, d_mod, d_pow, d_neg, d_iI, d_ord_i, d_ord_s, d_eq_i, d_eq_s, d_ne_i, d_ne_s, d_len_l, d_len_t, d_abs, d_gcd, d_max2, d_min2, d_tup_l, d_tup_t, d_ix_l, d_ix_t, d_atR, at_0, at_1, at_2, ixn_0, ixn_1, ixn_2, e_run, e_fin_ret, e_fin_nx, e_fin_exc, e_outR, e_outX, e_out_none, e_out_some, e_ioS, e_arg_none, e_arg_nil, e_arg_0, e_arg_s, e_ioD, e_call, e_calK1, e_calK2, e_calO_ret, e_calO_exc, e_callP, e_cpK, e_cpD, e_cpC_s, e_cpC_x, e_cpC_o, e_cpS, e_cpX, e_gnil, e_gv, e_gvK1, e_gvK2, e_gs, e_gsB, e_gsK, e_go, e_goK, e_ads_nil, e_ads_cons, e_adC, e_adC2, e_adD_v, e_adD_s, e_adD_o, e_adO, e_pi, e_piK, e_sl, e_slK1, e_slK2, e_slK3, e_slO, e_part_n, e_part_i, d_slice_l, d_slice_t, e_sl3, e_s3K1, e_s3K2, e_s3K3, e_s3K4, e_s3O, e_lc, e_lcK, e_lcB, e_lcR, e_yes, e_okW2, e_okWS_no, e_okWS_sh, eq_self, log_7, List.length_cons, List.length_nil, List.map_cons, List.map_nil, List.cons_append, List.nil_append, List.replicate_succ, List.replicate_zero, List.append_nil, List.getElem?_cons_zero, List.getElem?_cons_succ, List.getElem?_nil, List.set_cons_zero, List.set_cons_succ, Option.bind_some, Option.bind_none, Option.isSome_some, Nat.reduceAdd, Nat.reduceSub, Nat.reduceLT, Nat.reduceLeDiff, Nat.reduceEqDiff, Int.reduceAdd, Int.reduceMul, Int.reduceNeg, Int.reducePow, Int.reduceLT, Int.reduceLE, and_self, and_true, true_and, if_true, if_false, ↓reduceIte, Bool.not_true, Bool.not_false, decide_true, decide_false, decide_eq_true_eq, List.all_cons, List.all_nil, Bool.and_true, Bool.true_and, Bool.and_self, wipeE, adPl, Int.reduceToNat, rng_5, abs_10]
  · obtain ⟨p, ⟨y, rfl, rfl⟩, hp⟩ := hm 0
    refine ⟨_, ?_, hp⟩
    have hl : ((intsL cs).length : Int) = cs.length := by unfold intsL; rw [List.length_map]
    simp only [f__law_pool, F__law_pool, e_iEn, e_iEnK, e_enD, e_iZq, e_iZqK, e_zq_ll, e_zq_tt, e_zq_lt, e_zq_tl, e_asgT, e_asgTK, e_asgO, e_call0, List.reverse_cons, List.reverse_nil, e_cmpV, e_cvH, e_cvB, e_cvO, e_cvZ, e_join, e_jK1, e_jK2, e_len_s, e_whK_f, e_whK_t, e_whS, restE, List.getD_cons_zero, List.getD_cons_succ, List.getD_nil, d_pow_6, d_pow_12, d_pow_18, d_pow_30, e_OE_bind_ok, e_OE_bind_exc, e_OE_bindT_ok, e_OE_bindT_exc, e_OE_bindA_ok, e_OE_bindA_exc, e_OE_bindS_ok, e_OE_bindS_exc, e_OE_bindI_ok, e_OE_bindI_exc, e_OE_bindG_ok, e_OE_bindG_exc, e_OT_bind_ok, e_OT_bind_exc, e_OT_bindE_ok, e_OT_bindE_exc, e_OT_bindS_ok, e_OT_bindS_exc, e_OA_bind_ok, e_OA_bind_exc, e_OA_bindE_ok, e_OA_bindE_exc, e_OA_bindI_ok, e_OA_bindI_exc, e_OI_bindE_ok, e_OI_bindE_exc, e_OI_bindS_ok, e_OI_bindS_exc, e_OG_bind_ok, e_OG_bind_exc, e_OG_bindE_ok, e_OG_bindE_exc, e_seq_nx, e_seq_ret, e_seq_brk, e_seq_cnt, e_seq_exc, e_var, e_varK_sh, e_varK_ow, e_mv, e_mvK_sh, e_mvK_ow, e_c, e_okO, e_op2, e_opK1, e_opK2, e_un, e_unK, e_and, e_or, e_not, e_tru, e_andK_t, e_andK_f, e_orK_t, e_orK_f, e_notK, e_truK, e_if, e_tand, e_tor, e_tnot, e_sif, e_ifK_t, e_ifK_f, e_sifK_t, e_sifK_f, e_tandK_t, e_tandK_f, e_torK_t, e_torK_f, e_tnotK, e_nil, e_cons, e_consK1, e_consK2, e_tup, e_lst, e_cb, e_tupK, e_lstK, e_cbK, e_chain, e_chK1, e_chK2, e_chK3, e_chB_t, e_chB_f, e_ixV, e_ixH, e_ixVK, e_ixE_own, e_ixE_sh, e_atO, e_ownAt, e_ownS_ow, e_ownS_io, e_ownS_lst, e_ownS_tup, e_ownS_str, e_ownS_int, e_lenV, e_lenK_own, e_lenK_sh, e_here_no, e_noIo_no, e_Own_no, e_here_sh, e_noIo_sh, e_Own_sh, e_here_ow, e_noIo_ow, e_Own_ow, e_here_io, e_noIo_io, e_Own_io, e_fz_sh, e_fz_ow, e_sv_sh, e_sv_ow, e_ret, e_retK, e_retN, e_expr, e_exprK, e_pass, e_break, e_cont, e_asg, e_asgK, e_asgB, e_sseq, e_set, e_setK1, e_setB, e_setK2, e_setO, e_setJ, e_nxO, e_setOwn, e_soK_ow, e_soK_io, e_app, e_appB, e_appK, e_appO, e_par, e_parA, e_parK, e_okI, e_iVal, e_iValK, e_items_lst, e_items_tup, e_items_str, e_iZp, e_iZpK, e_zp_l, e_zp_t, e_iRv, e_iRvK, e_rv_l, e_rv_t, e_iRg1, e_iRg1K, e_rg1, e_iRg2, e_iRg2K, e_rg2, e_for, e_forK, e_for_nil, e_for_cons, e_forG, e_forS_nx, e_forS_cnt, e_forS_brk, e_forS_ret, e_forS_exc, e_gVar, e_gvB, e_gTup, e_gTupW, e_gCons, e_gNil, d_add_i, d_add_s, d_add_l, d_add_t, d_mul_i, d_mul_s, d_mul_l, d_fdiv, d_mod, d_pow, d_neg, d_iI, d_ord_i, d_ord_s, d_eq_i, d_eq_s, d_ne_i, d_ne_s, d_len_l, d_len_t, d_abs, d_gcd, d_max2, d_min2, d_tup_l, d_tup_t, d_ix_l, d_ix_t, d_atR, at_0, at_1, at_2, ixn_0, ixn_1, ixn_2, e_run, e_fin_ret, e_fin_nx, e_fin_exc, e_outR, e_outX, e_out_none, e_out_some, e_ioS, e_arg_none, e_arg_nil, e_arg_0, e_arg_s, e_ioD, e_call, e_calK1, e_calK2, e_calO_ret, e_calO_exc, e_callP, e_cpK, e_cpD, e_cpC_s, e_cpC_x, e_cpC_o, e_cpS, e_cpX, e_gnil, e_gv, e_gvK1, e_gvK2, e_gs, e_gsB, e_gsK, e_go, e_goK, e_ads_nil, e_ads_cons, e_adC, e_adC2, e_adD_v, e_adD_s, e_adD_o, e_adO, e_pi, e_piK, e_sl, e_slK1, e_slK2, e_slK3, e_slO, e_part_n, e_part_i, d_slice_l, d_slice_t, e_sl3, e_s3K1, e_s3K2, e_s3K3, e_s3K4, e_s3O, e_lc, e_lcK, e_lcB, e_lcR, e_yes, e_okW2, e_okWS_no, e_okWS_sh, eq_self, log_7, List.length_cons, List.length_nil, List.map_cons, List.map_nil, List.cons_append, List.nil_append, List.replicate_succ, List.replicate_zero, List.append_nil, List.getElem?_cons_zero, List.getElem?_cons_succ, List.getElem?_nil, List.set_cons_zero, List.set_cons_succ, Option.bind_some, Option.bind_none, Option.isSome_some, Nat.reduceAdd, Nat.reduceSub, Nat.reduceLT, Nat.reduceLeDiff, Nat.reduceEqDiff, Int.reduceAdd, Int.reduceMul, Int.reduceNeg, Int.reducePow, Int.reduceLT, Int.reduceLE, and_self, and_true, true_and, if_true, if_false, ↓reduceIte, Bool.not_true, Bool.not_false, decide_true, decide_false, decide_eq_true_eq, List.all_cons, List.all_nil, Bool.and_true, Bool.true_and, Bool.and_self, wipeE, adPl, Int.reduceToNat, rng_5, abs_10, h, hl]
    rw [if_pos (mul_ok (by omega) (by omega) (by omega) (by omega))]
    simp only [e_iEn, e_iEnK, e_enD, e_iZq, e_iZqK, e_zq_ll, e_zq_tt, e_zq_lt, e_zq_tl, e_asgT, e_asgTK, e_asgO, e_call0, List.reverse_cons, List.reverse_nil, e_cmpV, e_cvH, e_cvB, e_cvO, e_cvZ, e_join, e_jK1, e_jK2, e_len_s, e_whK_f, e_whK_t, e_whS, restE, List.getD_cons_zero, List.getD_cons_succ, List.getD_nil, d_pow_6, d_pow_12, d_pow_18, d_pow_30, e_OE_bind_ok, e_OE_bind_exc, e_OE_bindT_ok, e_OE_bindT_exc, e_OE_bindA_ok, e_OE_bindA_exc, e_OE_bindS_ok, e_OE_bindS_exc, e_OE_bindI_ok, e_OE_bindI_exc, e_OE_bindG_ok, e_OE_bindG_exc, e_OT_bind_ok, e_OT_bind_exc, e_OT_bindE_ok, e_OT_bindE_exc, e_OT_bindS_ok, e_OT_bindS_exc, e_OA_bind_ok, e_OA_bind_exc, e_OA_bindE_ok, e_OA_bindE_exc, e_OA_bindI_ok, e_OA_bindI_exc, e_OI_bindE_ok, e_OI_bindE_exc, e_OI_bindS_ok, e_OI_bindS_exc, e_OG_bind_ok, e_OG_bind_exc, e_OG_bindE_ok, e_OG_bindE_exc, e_seq_nx, e_seq_ret, e_seq_brk, e_seq_cnt, e_seq_exc, e_var, e_varK_sh, e_varK_ow, e_mv, e_mvK_sh, e_mvK_ow, e_c, e_okO, e_op2, e_opK1, e_opK2, e_un, e_unK, e_and, e_or, e_not, e_tru, e_andK_t, e_andK_f, e_orK_t, e_orK_f, e_notK, e_truK, e_if, e_tand, e_tor, e_tnot, e_sif, e_ifK_t, e_ifK_f, e_sifK_t, e_sifK_f, e_tandK_t, e_tandK_f, e_torK_t, e_torK_f, e_tnotK, e_nil, e_cons, e_consK1, e_consK2, e_tup, e_lst, e_cb, e_tupK, e_lstK, e_cbK, e_chain, e_chK1, e_chK2, e_chK3, e_chB_t, e_chB_f, e_ixV, e_ixH, e_ixVK, e_ixE_own, e_ixE_sh, e_atO, e_ownAt, e_ownS_ow, e_ownS_io, e_ownS_lst, e_ownS_tup, e_ownS_str, e_ownS_int, e_lenV, e_lenK_own, e_lenK_sh, e_here_no, e_noIo_no, e_Own_no, e_here_sh, e_noIo_sh, e_Own_sh, e_here_ow, e_noIo_ow, e_Own_ow, e_here_io, e_noIo_io, e_Own_io, e_fz_sh, e_fz_ow, e_sv_sh, e_sv_ow, e_ret, e_retK, e_retN, e_expr, e_exprK, e_pass, e_break, e_cont, e_asg, e_asgK, e_asgB, e_sseq, e_set, e_setK1, e_setB, e_setK2, e_setO, e_setJ, e_nxO, e_setOwn, e_soK_ow, e_soK_io, e_app, e_appB, e_appK, e_appO, e_par, e_parA, e_parK, e_okI, e_iVal, e_iValK, e_items_lst, e_items_tup, e_items_str, e_iZp, e_iZpK, e_zp_l, e_zp_t, e_iRv, e_iRvK, e_rv_l, e_rv_t, e_iRg1, e_iRg1K, e_rg1, e_iRg2, e_iRg2K, e_rg2, e_for, e_forK, e_for_nil, e_for_cons, e_forG, e_forS_nx, e_forS_cnt, e_forS_brk, e_forS_ret, e_forS_exc, e_gVar, e_gvB, e_gTup, e_gTupW, e_gCons, e_gNil, d_add_i, d_add_s, d_add_l, d_add_t, d_mul_i, d_mul_s, d_mul_l, d_fdiv, d_mod, d_pow, d_neg, d_iI, d_ord_i, d_ord_s, d_eq_i, d_eq_s, d_ne_i, d_ne_s, d_len_l, d_len_t, d_abs, d_gcd, d_max2, d_min2, d_tup_l, d_tup_t, d_ix_l, d_ix_t, d_atR, at_0, at_1, at_2, ixn_0, ixn_1, ixn_2, e_run, e_fin_ret, e_fin_nx, e_fin_exc, e_outR, e_outX, e_out_none, e_out_some, e_ioS, e_arg_none, e_arg_nil, e_arg_0, e_arg_s, e_ioD, e_call, e_calK1, e_calK2, e_calO_ret, e_calO_exc, e_callP, e_cpK, e_cpD, e_cpC_s, e_cpC_x, e_cpC_o, e_cpS, e_cpX, e_gnil, e_gv, e_gvK1, e_gvK2, e_gs, e_gsB, e_gsK, e_go, e_goK, e_ads_nil, e_ads_cons, e_adC, e_adC2, e_adD_v, e_adD_s, e_adD_o, e_adO, e_pi, e_piK, e_sl, e_slK1, e_slK2, e_slK3, e_slO, e_part_n, e_part_i, d_slice_l, d_slice_t, e_sl3, e_s3K1, e_s3K2, e_s3K3, e_s3K4, e_s3O, e_lc, e_lcK, e_lcB, e_lcR, e_yes, e_okW2, e_okWS_no, e_okWS_sh, eq_self, log_7, List.length_cons, List.length_nil, List.map_cons, List.map_nil, List.cons_append, List.nil_append, List.replicate_succ, List.replicate_zero, List.append_nil, List.getElem?_cons_zero, List.getElem?_cons_succ, List.getElem?_nil, List.set_cons_zero, List.set_cons_succ, Option.bind_some, Option.bind_none, Option.isSome_some, Nat.reduceAdd, Nat.reduceSub, Nat.reduceLT, Nat.reduceLeDiff, Nat.reduceEqDiff, Int.reduceAdd, Int.reduceMul, Int.reduceNeg, Int.reducePow, Int.reduceLT, Int.reduceLE, and_self, and_true, true_and, if_true, if_false, ↓reduceIte, Bool.not_true, Bool.not_false, decide_true, decide_false, decide_eq_true_eq, List.all_cons, List.all_nil, Bool.and_true, Bool.true_and, Bool.and_self, wipeE, adPl, Int.reduceToNat, rng_5, abs_10]
theorem zip_ints : ∀ (xs ys : List Int), zipD (intsL xs) (intsL ys) = (xs.zip ys).map fun q => .wtp [.int q.1, .int q.2]
  | [], _ => by simp [intsL, zipD]
  | _ :: _, [] => by simp [intsL, zipD]
  | x :: xs, y :: ys => by
    have := zip_ints xs ys
    simp only [intsL] at this
    simp [intsL, zipD, this]
/-- the inner comprehension of added -/
theorem added_lc (t : Int) (ht : -(10 ^ 60) ≤ t ∧ t ≤ 10 ^ 60) (s0 s1 s2 s3 s4 : SV) : ∀ (ns : List Int) (acc : List D), (∀ y ∈ ns, -(10 ^ 60) ≤ y ∧ y ≤ 10 ^ 60) → acc.length + ns.length ≤ 1000000 →
    ∃ z, lcL (gTupF 2 (gConsF (gVar 6) (gConsF (gVar 7) gNilF))) oYes (oOp2 addF (oVar 6) (oOp2 mulF' (oVar 5) (oVar 7))) [6, 7] (ns.map fun n => .wtp [.int 0, .int n]) [s0, s1, s2, s3, s4, .sh (.int t), .no, .no] acc = some (acc ++ intsL (ns.map fun n => t * n), z) ∧ z = [s0, s1, s2, s3, s4, .sh (.int t), .no, .no]
  | [], acc, _, _ => ⟨_, by simp [lcL, intsL], rfl⟩
  | n :: ns, acc, h, hl => by
    have hn := h n List.mem_cons_self
    rw [List.length_cons] at hl
    obtain ⟨z, e, hz⟩ := added_lc t ht s0 s1 s2 s3 s4 ns (acc ++ [.int (t * n)]) (fun y hy => h y (List.mem_cons_of_mem _ hy)) (by rw [List.length_append, List.length_singleton]; omega)
    refine ⟨z, ?_, hz⟩
    have hlt : acc.length < 1000000 := by omega
    rw [List.map_cons, lcL]
    simp only [e_iEn, e_iEnK, e_enD, e_iZq, e_iZqK, e_zq_ll, e_zq_tt, e_zq_lt, e_zq_tl, e_asgT, e_asgTK, e_asgO, e_call0, List.reverse_cons, List.reverse_nil, e_cmpV, e_cvH, e_cvB, e_cvO, e_cvZ, e_join, e_jK1, e_jK2, e_len_s, e_whK_f, e_whK_t, e_whS, restE, List.getD_cons_zero, List.getD_cons_succ, List.getD_nil, d_pow_6, d_pow_12, d_pow_18, d_pow_30, e_OE_bind_ok, e_OE_bind_exc, e_OE_bindT_ok, e_OE_bindT_exc, e_OE_bindA_ok, e_OE_bindA_exc, e_OE_bindS_ok, e_OE_bindS_exc, e_OE_bindI_ok, e_OE_bindI_exc, e_OE_bindG_ok, e_OE_bindG_exc, e_OT_bind_ok, e_OT_bind_exc, e_OT_bindE_ok, e_OT_bindE_exc, e_OT_bindS_ok, e_OT_bindS_exc, e_OA_bind_ok, e_OA_bind_exc, e_OA_bindE_ok, e_OA_bindE_exc, e_OA_bindI_ok, e_OA_bindI_exc, e_OI_bindE_ok, e_OI_bindE_exc, e_OI_bindS_ok, e_OI_bindS_exc, e_OG_bind_ok, e_OG_bind_exc, e_OG_bindE_ok, e_OG_bindE_exc, e_seq_nx, e_seq_ret, e_seq_brk, e_seq_cnt, e_seq_exc, e_var, e_varK_sh, e_varK_ow, e_mv, e_mvK_sh, e_mvK_ow, e_c, e_okO, e_op2, e_opK1, e_opK2, e_un, e_unK, e_and, e_or, e_not, e_tru, e_andK_t, e_andK_f, e_orK_t, e_orK_f, e_notK, e_truK, e_if, e_tand, e_tor, e_tnot, e_sif, e_ifK_t, e_ifK_f, e_sifK_t, e_sifK_f, e_tandK_t, e_tandK_f, e_torK_t, e_torK_f, e_tnotK, e_nil, e_cons, e_consK1, e_consK2, e_tup, e_lst, e_cb, e_tupK, e_lstK, e_cbK, e_chain, e_chK1, e_chK2, e_chK3, e_chB_t, e_chB_f, e_ixV, e_ixH, e_ixVK, e_ixE_own, e_ixE_sh, e_atO, e_ownAt, e_ownS_ow, e_ownS_io, e_ownS_lst, e_ownS_tup, e_ownS_str, e_ownS_int, e_lenV, e_lenK_own, e_lenK_sh, e_here_no, e_noIo_no, e_Own_no, e_here_sh, e_noIo_sh, e_Own_sh, e_here_ow, e_noIo_ow, e_Own_ow, e_here_io, e_noIo_io, e_Own_io, e_fz_sh, e_fz_ow, e_sv_sh, e_sv_ow, e_ret, e_retK, e_retN, e_expr, e_exprK, e_pass, e_break, e_cont, e_asg, e_asgK, e_asgB, e_sseq, e_set, e_setK1, e_setB, e_setK2, e_setO, e_setJ, e_nxO, e_setOwn, e_soK_ow, e_soK_io, e_app, e_appB, e_appK, e_appO, e_par, e_parA, e_parK, e_okI, e_iVal, e_iValK, e_items_lst, e_items_tup, e_items_str, e_iZp, e_iZpK, e_zp_l, e_zp_t, e_iRv, e_iRvK, e_rv_l, e_rv_t, e_iRg1, e_iRg1K, e_rg1, e_iRg2, e_iRg2K, e_rg2, e_for, e_forK, e_for_nil, e_for_cons, e_forG, e_forS_nx, e_forS_cnt, e_forS_brk, e_forS_ret, e_forS_exc, e_gVar, e_gvB, e_gTup, e_gTupW, e_gCons, e_gNil, d_add_i, d_add_s, d_add_l, d_add_t, d_mul_i, d_mul_s, d_mul_l, d_fdiv, d_mod, d_pow, d_neg, d_iI, d_ord_i, d_ord_s, d_eq_i, d_eq_s, d_ne_i, d_ne_s, d_len_l, d_len_t, d_abs, d_gcd, d_max2, d_min2, d_tup_l, d_tup_t, d_ix_l, d_ix_t, d_atR, at_0, at_1, at_2, ixn_0, ixn_1, ixn_2, e_run, e_fin_ret, e_fin_nx, e_fin_exc, e_outR, e_outX, e_out_none, e_out_some, e_ioS, e_arg_none, e_arg_nil, e_arg_0, e_arg_s, e_ioD, e_call, e_calK1, e_calK2, e_calO_ret, e_calO_exc, e_callP, e_cpK, e_cpD, e_cpC_s, e_cpC_x, e_cpC_o, e_cpS, e_cpX, e_gnil, e_gv, e_gvK1, e_gvK2, e_gs, e_gsB, e_gsK, e_go, e_goK, e_ads_nil, e_ads_cons, e_adC, e_adC2, e_adD_v, e_adD_s, e_adD_o, e_adO, e_pi, e_piK, e_sl, e_slK1, e_slK2, e_slK3, e_slO, e_part_n, e_part_i, d_slice_l, d_slice_t, e_sl3, e_s3K1, e_s3K2, e_s3K3, e_s3K4, e_s3O, e_lc, e_lcK, e_lcB, e_lcR, e_yes, e_okW2, e_okWS_no, e_okWS_sh, eq_self, log_7, List.length_cons, List.length_nil, List.map_cons, List.map_nil, List.cons_append, List.nil_append, List.replicate_succ, List.replicate_zero, List.append_nil, List.getElem?_cons_zero, List.getElem?_cons_succ, List.getElem?_nil, List.set_cons_zero, List.set_cons_succ, Option.bind_some, Option.bind_none, Option.isSome_some, Nat.reduceAdd, Nat.reduceSub, Nat.reduceLT, Nat.reduceLeDiff, Nat.reduceEqDiff, Int.reduceAdd, Int.reduceMul, Int.reduceNeg, Int.reducePow, Int.reduceLT, Int.reduceLE, and_self, and_true, true_and, if_true, if_false, ↓reduceIte, Bool.not_true, Bool.not_false, decide_true, decide_false, decide_eq_true_eq, List.all_cons, List.all_nil, Bool.and_true, Bool.true_and, Bool.and_self, wipeE, adPl, Int.reduceToNat, rng_5, abs_10]
    rw [if_pos (mul_ok (by omega) (by omega) (by omega) (by omega))]
    simp only [e_iEn, e_iEnK, e_enD, e_iZq, e_iZqK, e_zq_ll, e_zq_tt, e_zq_lt, e_zq_tl, e_asgT, e_asgTK, e_asgO, e_call0, List.reverse_cons, List.reverse_nil, e_cmpV, e_cvH, e_cvB, e_cvO, e_cvZ, e_join, e_jK1, e_jK2, e_len_s, e_whK_f, e_whK_t, e_whS, restE, List.getD_cons_zero, List.getD_cons_succ, List.getD_nil, d_pow_6, d_pow_12, d_pow_18, d_pow_30, e_OE_bind_ok, e_OE_bind_exc, e_OE_bindT_ok, e_OE_bindT_exc, e_OE_bindA_ok, e_OE_bindA_exc, e_OE_bindS_ok, e_OE_bindS_exc, e_OE_bindI_ok, e_OE_bindI_exc, e_OE_bindG_ok, e_OE_bindG_exc, e_OT_bind_ok, e_OT_bind_exc, e_OT_bindE_ok, e_OT_bindE_exc, e_OT_bindS_ok, e_OT_bindS_exc, e_OA_bind_ok, e_OA_bind_exc, e_OA_bindE_ok, e_OA_bindE_exc, e_OA_bindI_ok, e_OA_bindI_exc, e_OI_bindE_ok, e_OI_bindE_exc, e_OI_bindS_ok, e_OI_bindS_exc, e_OG_bind_ok, e_OG_bind_exc, e_OG_bindE_ok, e_OG_bindE_exc, e_seq_nx, e_seq_ret, e_seq_brk, e_seq_cnt, e_seq_exc, e_var, e_varK_sh, e_varK_ow, e_mv, e_mvK_sh, e_mvK_ow, e_c, e_okO, e_op2, e_opK1, e_opK2, e_un, e_unK, e_and, e_or, e_not, e_tru, e_andK_t, e_andK_f, e_orK_t, e_orK_f, e_notK, e_truK, e_if, e_tand, e_tor, e_tnot, e_sif, e_ifK_t, e_ifK_f, e_sifK_t, e_sifK_f, e_tandK_t, e_tandK_f, e_torK_t, e_torK_f, e_tnotK, e_nil, e_cons, e_consK1, e_consK2, e_tup, e_lst, e_cb, e_tupK, e_lstK, e_cbK, e_chain, e_chK1, e_chK2, e_chK3, e_chB_t, e_chB_f, e_ixV, e_ixH, e_ixVK, e_ixE_own, e_ixE_sh, e_atO, e_ownAt, e_ownS_ow, e_ownS_io, e_ownS_lst, e_ownS_tup, e_ownS_str, e_ownS_int, e_lenV, e_lenK_own, e_lenK_sh, e_here_no, e_noIo_no, e_Own_no, e_here_sh, e_noIo_sh, e_Own_sh, e_here_ow, e_noIo_ow, e_Own_ow, e_here_io, e_noIo_io, e_Own_io, e_fz_sh, e_fz_ow, e_sv_sh, e_sv_ow, e_ret, e_retK, e_retN, e_expr, e_exprK, e_pass, e_break, e_cont, e_asg, e_asgK, e_asgB, e_sseq, e_set, e_setK1, e_setB, e_setK2, e_setO, e_setJ, e_nxO, e_setOwn, e_soK_ow, e_soK_io, e_app, e_appB, e_appK, e_appO, e_par, e_parA, e_parK, e_okI, e_iVal, e_iValK, e_items_lst, e_items_tup, e_items_str, e_iZp, e_iZpK, e_zp_l, e_zp_t, e_iRv, e_iRvK, e_rv_l, e_rv_t, e_iRg1, e_iRg1K, e_rg1, e_iRg2, e_iRg2K, e_rg2, e_for, e_forK, e_for_nil, e_for_cons, e_forG, e_forS_nx, e_forS_cnt, e_forS_brk, e_forS_ret, e_forS_exc, e_gVar, e_gvB, e_gTup, e_gTupW, e_gCons, e_gNil, d_add_i, d_add_s, d_add_l, d_add_t, d_mul_i, d_mul_s, d_mul_l, d_fdiv, d_mod, d_pow, d_neg, d_iI, d_ord_i, d_ord_s, d_eq_i, d_eq_s, d_ne_i, d_ne_s, d_len_l, d_len_t, d_abs, d_gcd, d_max2, d_min2, d_tup_l, d_tup_t, d_ix_l, d_ix_t, d_atR, at_0, at_1, at_2, ixn_0, ixn_1, ixn_2, e_run, e_fin_ret, e_fin_nx, e_fin_exc, e_outR, e_outX, e_out_none, e_out_some, e_ioS, e_arg_none, e_arg_nil, e_arg_0, e_arg_s, e_ioD, e_call, e_calK1, e_calK2, e_calO_ret, e_calO_exc, e_callP, e_cpK, e_cpD, e_cpC_s, e_cpC_x, e_cpC_o, e_cpS, e_cpX, e_gnil, e_gv, e_gvK1, e_gvK2, e_gs, e_gsB, e_gsK, e_go, e_goK, e_ads_nil, e_ads_cons, e_adC, e_adC2, e_adD_v, e_adD_s, e_adD_o, e_adO, e_pi, e_piK, e_sl, e_slK1, e_slK2, e_slK3, e_slO, e_part_n, e_part_i, d_slice_l, d_slice_t, e_sl3, e_s3K1, e_s3K2, e_s3K3, e_s3K4, e_s3O, e_lc, e_lcK, e_lcB, e_lcR, e_yes, e_okW2, e_okWS_no, e_okWS_sh, eq_self, log_7, List.length_cons, List.length_nil, List.map_cons, List.map_nil, List.cons_append, List.nil_append, List.replicate_succ, List.replicate_zero, List.append_nil, List.getElem?_cons_zero, List.getElem?_cons_succ, List.getElem?_nil, List.set_cons_zero, List.set_cons_succ, Option.bind_some, Option.bind_none, Option.isSome_some, Nat.reduceAdd, Nat.reduceSub, Nat.reduceLT, Nat.reduceLeDiff, Nat.reduceEqDiff, Int.reduceAdd, Int.reduceMul, Int.reduceNeg, Int.reducePow, Int.reduceLT, Int.reduceLE, and_self, and_true, true_and, if_true, if_false, ↓reduceIte, Bool.not_true, Bool.not_false, decide_true, decide_false, decide_eq_true_eq, List.all_cons, List.all_nil, Bool.and_true, Bool.true_and, Bool.and_self, wipeE, adPl, Int.reduceToNat, rng_5, abs_10, hlt, Int.zero_add]
    rw [e]
    simp [intsL]
theorem rep0 (n : Nat) : (List.replicate n [D.int 0]).flatten = List.replicate n (D.int 0) := by
  induction n with
  | zero => rfl
  | succ n ih => rw [List.replicate_succ, List.flatten_cons, ih, List.replicate_succ]; rfl
theorem zip_rep : ∀ (ns : List Int), zipD (List.replicate ns.length (D.int 0)) (intsL ns) = ns.map fun n => .wtp [.int 0, .int n]
  | [] => rfl
  | n :: ns => by
    have := zip_rep ns
    simp only [intsL] at this
    simp [intsL, zipD, List.replicate_succ, this]
theorem added_p (r : List Int) (t : Int) (w : Nat) (hw : r.length = w + 1) (hw2 : w < 100) (ht : -(10 ^ 60) ≤ t ∧ t ≤ 10 ^ 60) (h : ∀ y ∈ r, -(10 ^ 60) ≤ y ∧ y ≤ 10 ^ 60) :
    f_added [.lst [.lst (intsL r)], .lst [.int t], .int (w : Int)] = .ret (.sh (.tup (intsL (r.map fun n => t * n)))) [] := by
  obtain ⟨z, e, hz⟩ := added_lc t ht (.sh (.lst [.lst (intsL r)])) (.sh (.lst [.int t])) (.sh (.int (w : Int))) (.sh (.lst (List.replicate r.length (D.int 0)))) (.sh (.lst (intsL r))) r [] h (by rw [List.length_nil]; omega)
  have c1 : 0 ≤ (w : Int) + 1 ∧ (w : Int) + 1 ≤ 1000 := by omega
  have c2 : ((w : Int) + 1).toNat = r.length := by omega
  have z1 : zipD [D.lst (intsL r)] [D.int t] = [.wtp [.lst (intsL r), .int t]] := rfl
  by_cases q : t = 0
  · subst q
    have nz : neF (.int 0) (.int 0) = some (.sh (.bl false)) := rfl
    have e0 : intsL (r.map fun n => 0 * n) = List.replicate r.length (D.int 0) := by
      unfold intsL
      rw [List.map_map]
      clear hw h e hz c2 z1
      induction r with
      | nil => rfl
      | cons n r ih =>
        rw [List.map_cons, ih, List.length_cons, List.replicate_succ]
        show D.int (0 * n) :: _ = _
        rw [Int.zero_mul]
    rw [e0]
    simp only [f_added, F_added, e_iEn, e_iEnK, e_enD, e_iZq, e_iZqK, e_zq_ll, e_zq_tt, e_zq_lt, e_zq_tl, e_asgT, e_asgTK, e_asgO, e_call0, List.reverse_cons, List.reverse_nil, e_cmpV, e_cvH, e_cvB, e_cvO, e_cvZ, e_join, e_jK1, e_jK2, e_len_s, e_whK_f, e_whK_t, e_whS, restE, List.getD_cons_zero, List.getD_cons_succ, List.getD_nil, d_pow_6, d_pow_12, d_pow_18, d_pow_30, e_OE_bind_ok, e_OE_bind_exc, e_OE_bindT_ok, e_OE_bindT_exc, e_OE_bindA_ok, e_OE_bindA_exc, e_OE_bindS_ok, e_OE_bindS_exc, e_OE_bindI_ok, e_OE_bindI_exc, e_OE_bindG_ok, e_OE_bindG_exc, e_OT_bind_ok, e_OT_bind_exc, e_OT_bindE_ok, e_OT_bindE_exc, e_OT_bindS_ok, e_OT_bindS_exc, e_OA_bind_ok, e_OA_bind_exc, e_OA_bindE_ok, e_OA_bindE_exc, e_OA_bindI_ok, e_OA_bindI_exc, e_OI_bindE_ok, e_OI_bindE_exc, e_OI_bindS_ok, e_OI_bindS_exc, e_OG_bind_ok, e_OG_bind_exc, e_OG_bindE_ok, e_OG_bindE_exc, e_seq_nx, e_seq_ret, e_seq_brk, e_seq_cnt, e_seq_exc, e_var, e_varK_sh, e_varK_ow, e_mv, e_mvK_sh, e_mvK_ow, e_c, e_okO, e_op2, e_opK1, e_opK2, e_un, e_unK, e_and, e_or, e_not, e_tru, e_andK_t, e_andK_f, e_orK_t, e_orK_f, e_notK, e_truK, e_if, e_tand, e_tor, e_tnot, e_sif, e_ifK_t, e_ifK_f, e_sifK_t, e_sifK_f, e_tandK_t, e_tandK_f, e_torK_t, e_torK_f, e_tnotK, e_nil, e_cons, e_consK1, e_consK2, e_tup, e_lst, e_cb, e_tupK, e_lstK, e_cbK, e_chain, e_chK1, e_chK2, e_chK3, e_chB_t, e_chB_f, e_ixV, e_ixH, e_ixVK, e_ixE_own, e_ixE_sh, e_atO, e_ownAt, e_ownS_ow, e_ownS_io, e_ownS_lst, e_ownS_tup, e_ownS_str, e_ownS_int, e_lenV, e_lenK_own, e_lenK_sh, e_here_no, e_noIo_no, e_Own_no, e_here_sh, e_noIo_sh, e_Own_sh, e_here_ow, e_noIo_ow, e_Own_ow, e_here_io, e_noIo_io, e_Own_io, e_fz_sh, e_fz_ow, e_sv_sh, e_sv_ow, e_ret, e_retK, e_retN, e_expr, e_exprK, e_pass, e_break, e_cont, e_asg, e_asgK, e_asgB, e_sseq, e_set, e_setK1, e_setB, e_setK2, e_setO, e_setJ, e_nxO, e_setOwn, e_soK_ow, e_soK_io, e_app, e_appB, e_appK, e_appO, e_par, e_parA, e_parK, e_okI, e_iVal, e_iValK, e_items_lst, e_items_tup, e_items_str, e_iZp, e_iZpK, e_zp_l, e_zp_t, e_iRv, e_iRvK, e_rv_l, e_rv_t, e_iRg1, e_iRg1K, e_rg1, e_iRg2, e_iRg2K, e_rg2, e_for, e_forK, e_for_nil, e_for_cons, e_forG, e_forS_nx, e_forS_cnt, e_forS_brk, e_forS_ret, e_forS_exc, e_gVar, e_gvB, e_gTup, e_gTupW, e_gCons, e_gNil, d_add_i, d_add_s, d_add_l, d_add_t, d_mul_i, d_mul_s, d_mul_l, d_fdiv, d_mod, d_pow, d_neg, d_iI, d_ord_i, d_ord_s, d_eq_i, d_eq_s, d_ne_i, d_ne_s, d_len_l, d_len_t, d_abs, d_gcd, d_max2, d_min2, d_tup_l, d_tup_t, d_ix_l, d_ix_t, d_atR, at_0, at_1, at_2, ixn_0, ixn_1, ixn_2, e_run, e_fin_ret, e_fin_nx, e_fin_exc, e_outR, e_outX, e_out_none, e_out_some, e_ioS, e_arg_none, e_arg_nil, e_arg_0, e_arg_s, e_ioD, e_call, e_calK1, e_calK2, e_calO_ret, e_calO_exc, e_callP, e_cpK, e_cpD, e_cpC_s, e_cpC_x, e_cpC_o, e_cpS, e_cpX, e_gnil, e_gv, e_gvK1, e_gvK2, e_gs, e_gsB, e_gsK, e_go, e_goK, e_ads_nil, e_ads_cons, e_adC, e_adC2, e_adD_v, e_adD_s, e_adD_o, e_adO, e_pi, e_piK, e_sl, e_slK1, e_slK2, e_slK3, e_slO, e_part_n, e_part_i, d_slice_l, d_slice_t, e_sl3, e_s3K1, e_s3K2, e_s3K3, e_s3K4, e_s3O, e_lc, e_lcK, e_lcB, e_lcR, e_yes, e_okW2, e_okWS_no, e_okWS_sh, eq_self, log_7, List.length_cons, List.length_nil, List.map_cons, List.map_nil, List.cons_append, List.nil_append, List.replicate_succ, List.replicate_zero, List.append_nil, List.getElem?_cons_zero, List.getElem?_cons_succ, List.getElem?_nil, List.set_cons_zero, List.set_cons_succ, Option.bind_some, Option.bind_none, Option.isSome_some, Nat.reduceAdd, Nat.reduceSub, Nat.reduceLT, Nat.reduceLeDiff, Nat.reduceEqDiff, Int.reduceAdd, Int.reduceMul, Int.reduceNeg, Int.reducePow, Int.reduceLT, Int.reduceLE, and_self, and_true, true_and, if_true, if_false, ↓reduceIte, Bool.not_true, Bool.not_false, decide_true, decide_false, decide_eq_true_eq, List.all_cons, List.all_nil, Bool.and_true, Bool.true_and, Bool.and_self, wipeE, adPl, Int.reduceToNat, rng_5, abs_10, c1, c2, rep0, z1, nz]
  · have nz : neF (.int t) (.int 0) = some (.sh (.bl true)) := by
      show some (R.sh (D.bl (!decide (t = 0)))) = _
      rw [decide_eq_false q]
      rfl
    simp only [f_added, F_added, e_iEn, e_iEnK, e_enD, e_iZq, e_iZqK, e_zq_ll, e_zq_tt, e_zq_lt, e_zq_tl, e_asgT, e_asgTK, e_asgO, e_call0, List.reverse_cons, List.reverse_nil, e_cmpV, e_cvH, e_cvB, e_cvO, e_cvZ, e_join, e_jK1, e_jK2, e_len_s, e_whK_f, e_whK_t, e_whS, restE, List.getD_cons_zero, List.getD_cons_succ, List.getD_nil, d_pow_6, d_pow_12, d_pow_18, d_pow_30, e_OE_bind_ok, e_OE_bind_exc, e_OE_bindT_ok, e_OE_bindT_exc, e_OE_bindA_ok, e_OE_bindA_exc, e_OE_bindS_ok, e_OE_bindS_exc, e_OE_bindI_ok, e_OE_bindI_exc, e_OE_bindG_ok, e_OE_bindG_exc, e_OT_bind_ok, e_OT_bind_exc, e_OT_bindE_ok, e_OT_bindE_exc, e_OT_bindS_ok, e_OT_bindS_exc, e_OA_bind_ok, e_OA_bind_exc, e_OA_bindE_ok, e_OA_bindE_exc, e_OA_bindI_ok, e_OA_bindI_exc, e_OI_bindE_ok, e_OI_bindE_exc, e_OI_bindS_ok, e_OI_bindS_exc, e_OG_bind_ok, e_OG_bind_exc, e_OG_bindE_ok, e_OG_bindE_exc, e_seq_nx, e_seq_ret, e_seq_brk, e_seq_cnt, e_seq_exc, e_var, e_varK_sh, e_varK_ow, e_mv, e_mvK_sh, e_mvK_ow, e_c, e_okO, e_op2, e_opK1, e_opK2, e_un, e_unK, e_and, e_or, e_not, e_tru, e_andK_t, e_andK_f, e_orK_t, e_orK_f, e_notK, e_truK, e_if, e_tand, e_tor, e_tnot, e_sif, e_ifK_t, e_ifK_f, e_sifK_t, e_sifK_f, e_tandK_t, e_tandK_f, e_torK_t, e_torK_f, e_tnotK, e_nil, e_cons, e_consK1, e_consK2, e_tup, e_lst, e_cb, e_tupK, e_lstK, e_cbK, e_chain, e_chK1, e_chK2, e_chK3, e_chB_t, e_chB_f, e_ixV, e_ixH, e_ixVK, e_ixE_own, e_ixE_sh, e_atO, e_ownAt, e_ownS_ow, e_ownS_io, e_ownS_lst, e_ownS_tup, e_ownS_str, e_ownS_int, e_lenV, e_lenK_own, e_lenK_sh, e_here_no, e_noIo_no, e_Own_no, e_here_sh, e_noIo_sh, e_Own_sh, e_here_ow, e_noIo_ow, e_Own_ow, e_here_io, e_noIo_io, e_Own_io, e_fz_sh, e_fz_ow, e_sv_sh, e_sv_ow, e_ret, e_retK, e_retN, e_expr, e_exprK, e_pass, e_break, e_cont, e_asg, e_asgK, e_asgB, e_sseq, e_set, e_setK1, e_setB, e_setK2, e_setO, e_setJ, e_nxO, e_setOwn, e_soK_ow, e_soK_io, e_app, e_appB, e_appK, e_appO, e_par, e_parA, e_parK, e_okI, e_iVal, e_iValK, e_items_lst, e_items_tup, e_items_str, e_iZp, e_iZpK, e_zp_l, e_zp_t, e_iRv, e_iRvK, e_rv_l, e_rv_t, e_iRg1, e_iRg1K, e_rg1, e_iRg2, e_iRg2K, e_rg2, e_for, e_forK, e_for_nil, e_for_cons, e_forG, e_forS_nx, e_forS_cnt, e_forS_brk, e_forS_ret, e_forS_exc, e_gVar, e_gvB, e_gTup, e_gTupW, e_gCons, e_gNil, d_add_i, d_add_s, d_add_l, d_add_t, d_mul_i, d_mul_s, d_mul_l, d_fdiv, d_mod, d_pow, d_neg, d_iI, d_ord_i, d_ord_s, d_eq_i, d_eq_s, d_ne_i, d_ne_s, d_len_l, d_len_t, d_abs, d_gcd, d_max2, d_min2, d_tup_l, d_tup_t, d_ix_l, d_ix_t, d_atR, at_0, at_1, at_2, ixn_0, ixn_1, ixn_2, e_run, e_fin_ret, e_fin_nx, e_fin_exc, e_outR, e_outX, e_out_none, e_out_some, e_ioS, e_arg_none, e_arg_nil, e_arg_0, e_arg_s, e_ioD, e_call, e_calK1, e_calK2, e_calO_ret, e_calO_exc, e_callP, e_cpK, e_cpD, e_cpC_s, e_cpC_x, e_cpC_o, e_cpS, e_cpX, e_gnil, e_gv, e_gvK1, e_gvK2, e_gs, e_gsB, e_gsK, e_go, e_goK, e_ads_nil, e_ads_cons, e_adC, e_adC2, e_adD_v, e_adD_s, e_adD_o, e_adO, e_pi, e_piK, e_sl, e_slK1, e_slK2, e_slK3, e_slO, e_part_n, e_part_i, d_slice_l, d_slice_t, e_sl3, e_s3K1, e_s3K2, e_s3K3, e_s3K4, e_s3O, e_lc, e_lcK, e_lcB, e_lcR, e_yes, e_okW2, e_okWS_no, e_okWS_sh, eq_self, log_7, List.length_cons, List.length_nil, List.map_cons, List.map_nil, List.cons_append, List.nil_append, List.replicate_succ, List.replicate_zero, List.append_nil, List.getElem?_cons_zero, List.getElem?_cons_succ, List.getElem?_nil, List.set_cons_zero, List.set_cons_succ, Option.bind_some, Option.bind_none, Option.isSome_some, Nat.reduceAdd, Nat.reduceSub, Nat.reduceLT, Nat.reduceLeDiff, Nat.reduceEqDiff, Int.reduceAdd, Int.reduceMul, Int.reduceNeg, Int.reducePow, Int.reduceLT, Int.reduceLE, and_self, and_true, true_and, if_true, if_false, ↓reduceIte, Bool.not_true, Bool.not_false, decide_true, decide_false, decide_eq_true_eq, List.all_cons, List.all_nil, Bool.and_true, Bool.true_and, Bool.and_self, wipeE, adPl, Int.reduceToNat, rng_5, abs_10, c1, c2, rep0, z1, zip_rep, nz]
    rw [e, hz]
    simp only [e_iEn, e_iEnK, e_enD, e_iZq, e_iZqK, e_zq_ll, e_zq_tt, e_zq_lt, e_zq_tl, e_asgT, e_asgTK, e_asgO, e_call0, List.reverse_cons, List.reverse_nil, e_cmpV, e_cvH, e_cvB, e_cvO, e_cvZ, e_join, e_jK1, e_jK2, e_len_s, e_whK_f, e_whK_t, e_whS, restE, List.getD_cons_zero, List.getD_cons_succ, List.getD_nil, d_pow_6, d_pow_12, d_pow_18, d_pow_30, e_OE_bind_ok, e_OE_bind_exc, e_OE_bindT_ok, e_OE_bindT_exc, e_OE_bindA_ok, e_OE_bindA_exc, e_OE_bindS_ok, e_OE_bindS_exc, e_OE_bindI_ok, e_OE_bindI_exc, e_OE_bindG_ok, e_OE_bindG_exc, e_OT_bind_ok, e_OT_bind_exc, e_OT_bindE_ok, e_OT_bindE_exc, e_OT_bindS_ok, e_OT_bindS_exc, e_OA_bind_ok, e_OA_bind_exc, e_OA_bindE_ok, e_OA_bindE_exc, e_OA_bindI_ok, e_OA_bindI_exc, e_OI_bindE_ok, e_OI_bindE_exc, e_OI_bindS_ok, e_OI_bindS_exc, e_OG_bind_ok, e_OG_bind_exc, e_OG_bindE_ok, e_OG_bindE_exc, e_seq_nx, e_seq_ret, e_seq_brk, e_seq_cnt, e_seq_exc, e_var, e_varK_sh, e_varK_ow, e_mv, e_mvK_sh, e_mvK_ow, e_c, e_okO, e_op2, e_opK1, e_opK2, e_un, e_unK, e_and, e_or, e_not, e_tru, e_andK_t, e_andK_f, e_orK_t, e_orK_f, e_notK, e_truK, e_if, e_tand, e_tor, e_tnot, e_sif, e_ifK_t, e_ifK_f, e_sifK_t, e_sifK_f, e_tandK_t, e_tandK_f, e_torK_t, e_torK_f, e_tnotK, e_nil, e_cons, e_consK1, e_consK2, e_tup, e_lst, e_cb, e_tupK, e_lstK, e_cbK, e_chain, e_chK1, e_chK2, e_chK3, e_chB_t, e_chB_f, e_ixV, e_ixH, e_ixVK, e_ixE_own, e_ixE_sh, e_atO, e_ownAt, e_ownS_ow, e_ownS_io, e_ownS_lst, e_ownS_tup, e_ownS_str, e_ownS_int, e_lenV, e_lenK_own, e_lenK_sh, e_here_no, e_noIo_no, e_Own_no, e_here_sh, e_noIo_sh, e_Own_sh, e_here_ow, e_noIo_ow, e_Own_ow, e_here_io, e_noIo_io, e_Own_io, e_fz_sh, e_fz_ow, e_sv_sh, e_sv_ow, e_ret, e_retK, e_retN, e_expr, e_exprK, e_pass, e_break, e_cont, e_asg, e_asgK, e_asgB, e_sseq, e_set, e_setK1, e_setB, e_setK2, e_setO, e_setJ, e_nxO, e_setOwn, e_soK_ow, e_soK_io, e_app, e_appB, e_appK, e_appO, e_par, e_parA, e_parK, e_okI, e_iVal, e_iValK, e_items_lst, e_items_tup, e_items_str, e_iZp, e_iZpK, e_zp_l, e_zp_t, e_iRv, e_iRvK, e_rv_l, e_rv_t, e_iRg1, e_iRg1K, e_rg1, e_iRg2, e_iRg2K, e_rg2, e_for, e_forK, e_for_nil, e_for_cons, e_forG, e_forS_nx, e_forS_cnt, e_forS_brk, e_forS_ret, e_forS_exc, e_gVar, e_gvB, e_gTup, e_gTupW, e_gCons, e_gNil, d_add_i, d_add_s, d_add_l, d_add_t, d_mul_i, d_mul_s, d_mul_l, d_fdiv, d_mod, d_pow, d_neg, d_iI, d_ord_i, d_ord_s, d_eq_i, d_eq_s, d_ne_i, d_ne_s, d_len_l, d_len_t, d_abs, d_gcd, d_max2, d_min2, d_tup_l, d_tup_t, d_ix_l, d_ix_t, d_atR, at_0, at_1, at_2, ixn_0, ixn_1, ixn_2, e_run, e_fin_ret, e_fin_nx, e_fin_exc, e_outR, e_outX, e_out_none, e_out_some, e_ioS, e_arg_none, e_arg_nil, e_arg_0, e_arg_s, e_ioD, e_call, e_calK1, e_calK2, e_calO_ret, e_calO_exc, e_callP, e_cpK, e_cpD, e_cpC_s, e_cpC_x, e_cpC_o, e_cpS, e_cpX, e_gnil, e_gv, e_gvK1, e_gvK2, e_gs, e_gsB, e_gsK, e_go, e_goK, e_ads_nil, e_ads_cons, e_adC, e_adC2, e_adD_v, e_adD_s, e_adD_o, e_adO, e_pi, e_piK, e_sl, e_slK1, e_slK2, e_slK3, e_slO, e_part_n, e_part_i, d_slice_l, d_slice_t, e_sl3, e_s3K1, e_s3K2, e_s3K3, e_s3K4, e_s3O, e_lc, e_lcK, e_lcB, e_lcR, e_yes, e_okW2, e_okWS_no, e_okWS_sh, eq_self, log_7, List.length_cons, List.length_nil, List.map_cons, List.map_nil, List.cons_append, List.nil_append, List.replicate_succ, List.replicate_zero, List.append_nil, List.getElem?_cons_zero, List.getElem?_cons_succ, List.getElem?_nil, List.set_cons_zero, List.set_cons_succ, Option.bind_some, Option.bind_none, Option.isSome_some, Nat.reduceAdd, Nat.reduceSub, Nat.reduceLT, Nat.reduceLeDiff, Nat.reduceEqDiff, Int.reduceAdd, Int.reduceMul, Int.reduceNeg, Int.reducePow, Int.reduceLT, Int.reduceLE, and_self, and_true, true_and, if_true, if_false, ↓reduceIte, Bool.not_true, Bool.not_false, decide_true, decide_false, decide_eq_true_eq, List.all_cons, List.all_nil, Bool.and_true, Bool.true_and, Bool.and_self, wipeE, adPl, Int.reduceToNat, rng_5, abs_10]
theorem folded_p (ns : List Int) (hl : ns.length ≤ 63) : ∃ cs : List Int, f__law_folded [.lst (intsL ns), .int 8] = .ret (.ow (intsL cs)) [] ∧ cs.length ≤ 8 := by
  have hlen : ((intsL ns).length : Int) = ns.length := by unfold intsL; rw [List.length_map]
  have hb : 1 ≤ mx 1 (mn 8 (ns.length : Int)) ∧ mx 1 (mn 8 (ns.length : Int)) ≤ 8 := by
    unfold mx mn
    repeat' split
    all_goals omega
  simp only [f__law_folded, F__law_folded, e_iEn, e_iEnK, e_enD, e_iZq, e_iZqK, e_zq_ll, e_zq_tt, e_zq_lt, e_zq_tl, e_asgT, e_asgTK, e_asgO, e_call0, List.reverse_cons, List.reverse_nil, e_cmpV, e_cvH, e_cvB, e_cvO, e_cvZ, e_join, e_jK1, e_jK2, e_len_s, e_whK_f, e_whK_t, e_whS, restE, List.getD_cons_zero, List.getD_cons_succ, List.getD_nil, d_pow_6, d_pow_12, d_pow_18, d_pow_30, e_OE_bind_ok, e_OE_bind_exc, e_OE_bindT_ok, e_OE_bindT_exc, e_OE_bindA_ok, e_OE_bindA_exc, e_OE_bindS_ok, e_OE_bindS_exc, e_OE_bindI_ok, e_OE_bindI_exc, e_OE_bindG_ok, e_OE_bindG_exc, e_OT_bind_ok, e_OT_bind_exc, e_OT_bindE_ok, e_OT_bindE_exc, e_OT_bindS_ok, e_OT_bindS_exc, e_OA_bind_ok, e_OA_bind_exc, e_OA_bindE_ok, e_OA_bindE_exc, e_OA_bindI_ok, e_OA_bindI_exc, e_OI_bindE_ok, e_OI_bindE_exc, e_OI_bindS_ok, e_OI_bindS_exc, e_OG_bind_ok, e_OG_bind_exc, e_OG_bindE_ok, e_OG_bindE_exc, e_seq_nx, e_seq_ret, e_seq_brk, e_seq_cnt, e_seq_exc, e_var, e_varK_sh, e_varK_ow, e_mv, e_mvK_sh, e_mvK_ow, e_c, e_okO, e_op2, e_opK1, e_opK2, e_un, e_unK, e_and, e_or, e_not, e_tru, e_andK_t, e_andK_f, e_orK_t, e_orK_f, e_notK, e_truK, e_if, e_tand, e_tor, e_tnot, e_sif, e_ifK_t, e_ifK_f, e_sifK_t, e_sifK_f, e_tandK_t, e_tandK_f, e_torK_t, e_torK_f, e_tnotK, e_nil, e_cons, e_consK1, e_consK2, e_tup, e_lst, e_cb, e_tupK, e_lstK, e_cbK, e_chain, e_chK1, e_chK2, e_chK3, e_chB_t, e_chB_f, e_ixV, e_ixH, e_ixVK, e_ixE_own, e_ixE_sh, e_atO, e_ownAt, e_ownS_ow, e_ownS_io, e_ownS_lst, e_ownS_tup, e_ownS_str, e_ownS_int, e_lenV, e_lenK_own, e_lenK_sh, e_here_no, e_noIo_no, e_Own_no, e_here_sh, e_noIo_sh, e_Own_sh, e_here_ow, e_noIo_ow, e_Own_ow, e_here_io, e_noIo_io, e_Own_io, e_fz_sh, e_fz_ow, e_sv_sh, e_sv_ow, e_ret, e_retK, e_retN, e_expr, e_exprK, e_pass, e_break, e_cont, e_asg, e_asgK, e_asgB, e_sseq, e_set, e_setK1, e_setB, e_setK2, e_setO, e_setJ, e_nxO, e_setOwn, e_soK_ow, e_soK_io, e_app, e_appB, e_appK, e_appO, e_par, e_parA, e_parK, e_okI, e_iVal, e_iValK, e_items_lst, e_items_tup, e_items_str, e_iZp, e_iZpK, e_zp_l, e_zp_t, e_iRv, e_iRvK, e_rv_l, e_rv_t, e_iRg1, e_iRg1K, e_rg1, e_iRg2, e_iRg2K, e_rg2, e_for, e_forK, e_for_nil, e_for_cons, e_forG, e_forS_nx, e_forS_cnt, e_forS_brk, e_forS_ret, e_forS_exc, e_gVar, e_gvB, e_gTup, e_gTupW, e_gCons, e_gNil, d_add_i, d_add_s, d_add_l, d_add_t, d_mul_i, d_mul_s, d_mul_l, d_fdiv, d_mod, d_pow, d_neg, d_iI, d_ord_i, d_ord_s, d_eq_i, d_eq_s, d_ne_i, d_ne_s, d_len_l, d_len_t, d_abs, d_gcd, d_max2, d_min2, d_tup_l, d_tup_t, d_ix_l, d_ix_t, d_atR, at_0, at_1, at_2, ixn_0, ixn_1, ixn_2, e_run, e_fin_ret, e_fin_nx, e_fin_exc, e_outR, e_outX, e_out_none, e_out_some, e_ioS, e_arg_none, e_arg_nil, e_arg_0, e_arg_s, e_ioD, e_call, e_calK1, e_calK2, e_calO_ret, e_calO_exc, e_callP, e_cpK, e_cpD, e_cpC_s, e_cpC_x, e_cpC_o, e_cpS, e_cpX, e_gnil, e_gv, e_gvK1, e_gvK2, e_gs, e_gsB, e_gsK, e_go, e_goK, e_ads_nil, e_ads_cons, e_adC, e_adC2, e_adD_v, e_adD_s, e_adD_o, e_adO, e_pi, e_piK, e_sl, e_slK1, e_slK2, e_slK3, e_slO, e_part_n, e_part_i, d_slice_l, d_slice_t, e_sl3, e_s3K1, e_s3K2, e_s3K3, e_s3K4, e_s3O, e_lc, e_lcK, e_lcB, e_lcR, e_yes, e_okW2, e_okWS_no, e_okWS_sh, eq_self, log_7, List.length_cons, List.length_nil, List.map_cons, List.map_nil, List.cons_append, List.nil_append, List.replicate_succ, List.replicate_zero, List.append_nil, List.getElem?_cons_zero, List.getElem?_cons_succ, List.getElem?_nil, List.set_cons_zero, List.set_cons_succ, Option.bind_some, Option.bind_none, Option.isSome_some, Nat.reduceAdd, Nat.reduceSub, Nat.reduceLT, Nat.reduceLeDiff, Nat.reduceEqDiff, Int.reduceAdd, Int.reduceMul, Int.reduceNeg, Int.reducePow, Int.reduceLT, Int.reduceLE, and_self, and_true, true_and, if_true, if_false, ↓reduceIte, Bool.not_true, Bool.not_false, decide_true, decide_false, decide_eq_true_eq, List.all_cons, List.all_nil, Bool.and_true, Bool.true_and, Bool.and_self, wipeE, adPl, Int.reduceToNat, rng_5, abs_10, hlen]
  rw [if_pos (by omega)]
  generalize hm : (mx 1 (mn 8 (ns.length : Int))).toNat = m
  have hm8 : m ≤ 8 := by omega
  obtain ⟨rs, env', q1, q2, q3⟩ := lcL_inv (f := gVar 2) (ot := oYes) (oe := oCallB sumF (oCons (oSl3 (oVar 0) (oPI (oVar 2)) (oPI (oC (.int 63))) (oPI (oVar 1))) oNil)) (ws := [2]) (fun _ e => e = [SV.sh (D.lst (intsL ns)), SV.sh (D.int 8), SV.no]) (fun _ r => ∃ i : Int, r = .int i) (rngD 0 m) 0 [SV.sh (D.lst (intsL ns)), SV.sh (D.int 8), SV.no] [] (by rw [rng_len, List.length_nil]; omega) rfl (by
    rintro k d env _ _ hd rfl
    obtain ⟨j, hj⟩ : ∃ j, d = .int j := by
      obtain ⟨i, hi⟩ := List.getElem?_of_mem hd
      exact ⟨_, rng_get hi⟩
    subst hj
    have h80 : ¬ (some (8 : Int) = some 0) := by decide
    refine ⟨_, _, _, _, by (simp only [e_iEn, e_iEnK, e_enD, e_iZq, e_iZqK, e_zq_ll, e_zq_tt, e_zq_lt, e_zq_tl, e_asgT, e_asgTK, e_asgO, e_call0, List.reverse_cons, List.reverse_nil, e_cmpV, e_cvH, e_cvB, e_cvO, e_cvZ, e_join, e_jK1, e_jK2, e_len_s, e_whK_f, e_whK_t, e_whS, restE, List.getD_cons_zero, List.getD_cons_succ, List.getD_nil, d_pow_6, d_pow_12, d_pow_18, d_pow_30, e_OE_bind_ok, e_OE_bind_exc, e_OE_bindT_ok, e_OE_bindT_exc, e_OE_bindA_ok, e_OE_bindA_exc, e_OE_bindS_ok, e_OE_bindS_exc, e_OE_bindI_ok, e_OE_bindI_exc, e_OE_bindG_ok, e_OE_bindG_exc, e_OT_bind_ok, e_OT_bind_exc, e_OT_bindE_ok, e_OT_bindE_exc, e_OT_bindS_ok, e_OT_bindS_exc, e_OA_bind_ok, e_OA_bind_exc, e_OA_bindE_ok, e_OA_bindE_exc, e_OA_bindI_ok, e_OA_bindI_exc, e_OI_bindE_ok, e_OI_bindE_exc, e_OI_bindS_ok, e_OI_bindS_exc, e_OG_bind_ok, e_OG_bind_exc, e_OG_bindE_ok, e_OG_bindE_exc, e_seq_nx, e_seq_ret, e_seq_brk, e_seq_cnt, e_seq_exc, e_var, e_varK_sh, e_varK_ow, e_mv, e_mvK_sh, e_mvK_ow, e_c, e_okO, e_op2, e_opK1, e_opK2, e_un, e_unK, e_and, e_or, e_not, e_tru, e_andK_t, e_andK_f, e_orK_t, e_orK_f, e_notK, e_truK, e_if, e_tand, e_tor, e_tnot, e_sif, e_ifK_t, e_ifK_f, e_sifK_t, e_sifK_f, e_tandK_t, e_tandK_f, e_torK_t, e_torK_f, e_tnotK, e_nil, e_cons, e_consK1, e_consK2, e_tup, e_lst, e_cb, e_tupK, e_lstK, e_cbK, e_chain, e_chK1, e_chK2, e_chK3, e_chB_t, e_chB_f, e_ixV, e_ixH, e_ixVK, e_ixE_own, e_ixE_sh, e_atO, e_ownAt, e_ownS_ow, e_ownS_io, e_ownS_lst, e_ownS_tup, e_ownS_str, e_ownS_int, e_lenV, e_lenK_own, e_lenK_sh, e_here_no, e_noIo_no, e_Own_no, e_here_sh, e_noIo_sh, e_Own_sh, e_here_ow, e_noIo_ow, e_Own_ow, e_here_io, e_noIo_io, e_Own_io, e_fz_sh, e_fz_ow, e_sv_sh, e_sv_ow, e_ret, e_retK, e_retN, e_expr, e_exprK, e_pass, e_break, e_cont, e_asg, e_asgK, e_asgB, e_sseq, e_set, e_setK1, e_setB, e_setK2, e_setO, e_setJ, e_nxO, e_setOwn, e_soK_ow, e_soK_io, e_app, e_appB, e_appK, e_appO, e_par, e_parA, e_parK, e_okI, e_iVal, e_iValK, e_items_lst, e_items_tup, e_items_str, e_iZp, e_iZpK, e_zp_l, e_zp_t, e_iRv, e_iRvK, e_rv_l, e_rv_t, e_iRg1, e_iRg1K, e_rg1, e_iRg2, e_iRg2K, e_rg2, e_for, e_forK, e_for_nil, e_for_cons, e_forG, e_forS_nx, e_forS_cnt, e_forS_brk, e_forS_ret, e_forS_exc, e_gVar, e_gvB, e_gTup, e_gTupW, e_gCons, e_gNil, d_add_i, d_add_s, d_add_l, d_add_t, d_mul_i, d_mul_s, d_mul_l, d_fdiv, d_mod, d_pow, d_neg, d_iI, d_ord_i, d_ord_s, d_eq_i, d_eq_s, d_ne_i, d_ne_s, d_len_l, d_len_t, d_abs, d_gcd, d_max2, d_min2, d_tup_l, d_tup_t, d_ix_l, d_ix_t, d_atR, at_0, at_1, at_2, ixn_0, ixn_1, ixn_2, e_run, e_fin_ret, e_fin_nx, e_fin_exc, e_outR, e_outX, e_out_none, e_out_some, e_ioS, e_arg_none, e_arg_nil, e_arg_0, e_arg_s, e_ioD, e_call, e_calK1, e_calK2, e_calO_ret, e_calO_exc, e_callP, e_cpK, e_cpD, e_cpC_s, e_cpC_x, e_cpC_o, e_cpS, e_cpX, e_gnil, e_gv, e_gvK1, e_gvK2, e_gs, e_gsB, e_gsK, e_go, e_goK, e_ads_nil, e_ads_cons, e_adC, e_adC2, e_adD_v, e_adD_s, e_adD_o, e_adO, e_pi, e_piK, e_sl, e_slK1, e_slK2, e_slK3, e_slO, e_part_n, e_part_i, d_slice_l, d_slice_t, e_sl3, e_s3K1, e_s3K2, e_s3K3, e_s3K4, e_s3O, e_lc, e_lcK, e_lcB, e_lcR, e_yes, e_okW2, e_okWS_no, e_okWS_sh, eq_self, log_7, List.length_cons, List.length_nil, List.map_cons, List.map_nil, List.cons_append, List.nil_append, List.replicate_succ, List.replicate_zero, List.append_nil, List.getElem?_cons_zero, List.getElem?_cons_succ, List.getElem?_nil, List.set_cons_zero, List.set_cons_succ, Option.bind_some, Option.bind_none, Option.isSome_some, Nat.reduceAdd, Nat.reduceSub, Nat.reduceLT, Nat.reduceLeDiff, Nat.reduceEqDiff, Int.reduceAdd, Int.reduceMul, Int.reduceNeg, Int.reducePow, Int.reduceLT, Int.reduceLE, and_self, and_true, true_and, if_true, if_false, ↓reduceIte, Bool.not_true, Bool.not_false, decide_true, decide_false, decide_eq_true_eq, List.all_cons, List.all_nil, Bool.and_true, Bool.true_and, Bool.and_self, wipeE, adPl, Int.reduceToNat, rng_5, abs_10]) <;> rfl, by (simp only [e_iEn, e_iEnK, e_enD, e_iZq, e_iZqK, e_zq_ll, e_zq_tt, e_zq_lt, e_zq_tl, e_asgT, e_asgTK, e_asgO, e_call0, List.reverse_cons, List.reverse_nil, e_cmpV, e_cvH, e_cvB, e_cvO, e_cvZ, e_join, e_jK1, e_jK2, e_len_s, e_whK_f, e_whK_t, e_whS, restE, List.getD_cons_zero, List.getD_cons_succ, List.getD_nil, d_pow_6, d_pow_12, d_pow_18, d_pow_30, e_OE_bind_ok, e_OE_bind_exc, e_OE_bindT_ok, e_OE_bindT_exc, e_OE_bindA_ok, e_OE_bindA_exc, e_OE_bindS_ok, e_OE_bindS_exc, e_OE_bindI_ok, e_OE_bindI_exc, e_OE_bindG_ok, e_OE_bindG_exc, e_OT_bind_ok, e_OT_bind_exc, e_OT_bindE_ok, e_OT_bindE_exc, e_OT_bindS_ok, e_OT_bindS_exc, e_OA_bind_ok, e_OA_bind_exc, e_OA_bindE_ok, e_OA_bindE_exc, e_OA_bindI_ok, e_OA_bindI_exc, e_OI_bindE_ok, e_OI_bindE_exc, e_OI_bindS_ok, e_OI_bindS_exc, e_OG_bind_ok, e_OG_bind_exc, e_OG_bindE_ok, e_OG_bindE_exc, e_seq_nx, e_seq_ret, e_seq_brk, e_seq_cnt, e_seq_exc, e_var, e_varK_sh, e_varK_ow, e_mv, e_mvK_sh, e_mvK_ow, e_c, e_okO, e_op2, e_opK1, e_opK2, e_un, e_unK, e_and, e_or, e_not, e_tru, e_andK_t, e_andK_f, e_orK_t, e_orK_f, e_notK, e_truK, e_if, e_tand, e_tor, e_tnot, e_sif, e_ifK_t, e_ifK_f, e_sifK_t, e_sifK_f, e_tandK_t, e_tandK_f, e_torK_t, e_torK_f, e_tnotK, e_nil, e_cons, e_consK1, e_consK2, e_tup, e_lst, e_cb, e_tupK, e_lstK, e_cbK, e_chain, e_chK1, e_chK2, e_chK3, e_chB_t, e_chB_f, e_ixV, e_ixH, e_ixVK, e_ixE_own, e_ixE_sh, e_atO, e_ownAt, e_ownS_ow, e_ownS_io, e_ownS_lst, e_ownS_tup, e_ownS_str, e_ownS_int, e_lenV, e_lenK_own, e_lenK_sh, e_here_no, e_noIo_no, e_Own_no, e_here_sh, e_noIo_sh, e_Own_sh, e_here_ow, e_noIo_ow, e_Own_ow, e_here_io, e_noIo_io, e_Own_io, e_fz_sh, e_fz_ow, e_sv_sh, e_sv_ow, e_ret, e_retK, e_retN, e_expr, e_exprK, e_pass, e_break, e_cont, e_asg, e_asgK, e_asgB, e_sseq, e_set, e_setK1, e_setB, e_setK2, e_setO, e_setJ, e_nxO, e_setOwn, e_soK_ow, e_soK_io, e_app, e_appB, e_appK, e_appO, e_par, e_parA, e_parK, e_okI, e_iVal, e_iValK, e_items_lst, e_items_tup, e_items_str, e_iZp, e_iZpK, e_zp_l, e_zp_t, e_iRv, e_iRvK, e_rv_l, e_rv_t, e_iRg1, e_iRg1K, e_rg1, e_iRg2, e_iRg2K, e_rg2, e_for, e_forK, e_for_nil, e_for_cons, e_forG, e_forS_nx, e_forS_cnt, e_forS_brk, e_forS_ret, e_forS_exc, e_gVar, e_gvB, e_gTup, e_gTupW, e_gCons, e_gNil, d_add_i, d_add_s, d_add_l, d_add_t, d_mul_i, d_mul_s, d_mul_l, d_fdiv, d_mod, d_pow, d_neg, d_iI, d_ord_i, d_ord_s, d_eq_i, d_eq_s, d_ne_i, d_ne_s, d_len_l, d_len_t, d_abs, d_gcd, d_max2, d_min2, d_tup_l, d_tup_t, d_ix_l, d_ix_t, d_atR, at_0, at_1, at_2, ixn_0, ixn_1, ixn_2, e_run, e_fin_ret, e_fin_nx, e_fin_exc, e_outR, e_outX, e_out_none, e_out_some, e_ioS, e_arg_none, e_arg_nil, e_arg_0, e_arg_s, e_ioD, e_call, e_calK1, e_calK2, e_calO_ret, e_calO_exc, e_callP, e_cpK, e_cpD, e_cpC_s, e_cpC_x, e_cpC_o, e_cpS, e_cpX, e_gnil, e_gv, e_gvK1, e_gvK2, e_gs, e_gsB, e_gsK, e_go, e_goK, e_ads_nil, e_ads_cons, e_adC, e_adC2, e_adD_v, e_adD_s, e_adD_o, e_adO, e_pi, e_piK, e_sl, e_slK1, e_slK2, e_slK3, e_slO, e_part_n, e_part_i, d_slice_l, d_slice_t, e_sl3, e_s3K1, e_s3K2, e_s3K3, e_s3K4, e_s3O, e_lc, e_lcK, e_lcB, e_lcR, e_yes, e_okW2, e_okWS_no, e_okWS_sh, eq_self, log_7, List.length_cons, List.length_nil, List.map_cons, List.map_nil, List.cons_append, List.nil_append, List.replicate_succ, List.replicate_zero, List.append_nil, List.getElem?_cons_zero, List.getElem?_cons_succ, List.getElem?_nil, List.set_cons_zero, List.set_cons_succ, Option.bind_some, Option.bind_none, Option.isSome_some, Nat.reduceAdd, Nat.reduceSub, Nat.reduceLT, Nat.reduceLeDiff, Nat.reduceEqDiff, Int.reduceAdd, Int.reduceMul, Int.reduceNeg, Int.reducePow, Int.reduceLT, Int.reduceLE, and_self, and_true, true_and, if_true, if_false, ↓reduceIte, Bool.not_true, Bool.not_false, decide_true, decide_false, decide_eq_true_eq, List.all_cons, List.all_nil, Bool.and_true, Bool.true_and, Bool.and_self, wipeE, adPl, Int.reduceToNat, rng_5, abs_10]) <;> rfl, by (simp only [e_iEn, e_iEnK, e_enD, e_iZq, e_iZqK, e_zq_ll, e_zq_tt, e_zq_lt, e_zq_tl, e_asgT, e_asgTK, e_asgO, e_call0, List.reverse_cons, List.reverse_nil, e_cmpV, e_cvH, e_cvB, e_cvO, e_cvZ, e_join, e_jK1, e_jK2, e_len_s, e_whK_f, e_whK_t, e_whS, restE, List.getD_cons_zero, List.getD_cons_succ, List.getD_nil, d_pow_6, d_pow_12, d_pow_18, d_pow_30, e_OE_bind_ok, e_OE_bind_exc, e_OE_bindT_ok, e_OE_bindT_exc, e_OE_bindA_ok, e_OE_bindA_exc, e_OE_bindS_ok, e_OE_bindS_exc, e_OE_bindI_ok, e_OE_bindI_exc, e_OE_bindG_ok, e_OE_bindG_exc, e_OT_bind_ok, e_OT_bind_exc, e_OT_bindE_ok, e_OT_bindE_exc, e_OT_bindS_ok, e_OT_bindS_exc, e_OA_bind_ok, e_OA_bind_exc, e_OA_bindE_ok, e_OA_bindE_exc, e_OA_bindI_ok, e_OA_bindI_exc, e_OI_bindE_ok, e_OI_bindE_exc, e_OI_bindS_ok, e_OI_bindS_exc, e_OG_bind_ok, e_OG_bind_exc, e_OG_bindE_ok, e_OG_bindE_exc, e_seq_nx, e_seq_ret, e_seq_brk, e_seq_cnt, e_seq_exc, e_var, e_varK_sh, e_varK_ow, e_mv, e_mvK_sh, e_mvK_ow, e_c, e_okO, e_op2, e_opK1, e_opK2, e_un, e_unK, e_and, e_or, e_not, e_tru, e_andK_t, e_andK_f, e_orK_t, e_orK_f, e_notK, e_truK, e_if, e_tand, e_tor, e_tnot, e_sif, e_ifK_t, e_ifK_f, e_sifK_t, e_sifK_f, e_tandK_t, e_tandK_f, e_torK_t, e_torK_f, e_tnotK, e_nil, e_cons, e_consK1, e_consK2, e_tup, e_lst, e_cb, e_tupK, e_lstK, e_cbK, e_chain, e_chK1, e_chK2, e_chK3, e_chB_t, e_chB_f, e_ixV, e_ixH, e_ixVK, e_ixE_own, e_ixE_sh, e_atO, e_ownAt, e_ownS_ow, e_ownS_io, e_ownS_lst, e_ownS_tup, e_ownS_str, e_ownS_int, e_lenV, e_lenK_own, e_lenK_sh, e_here_no, e_noIo_no, e_Own_no, e_here_sh, e_noIo_sh, e_Own_sh, e_here_ow, e_noIo_ow, e_Own_ow, e_here_io, e_noIo_io, e_Own_io, e_fz_sh, e_fz_ow, e_sv_sh, e_sv_ow, e_ret, e_retK, e_retN, e_expr, e_exprK, e_pass, e_break, e_cont, e_asg, e_asgK, e_asgB, e_sseq, e_set, e_setK1, e_setB, e_setK2, e_setO, e_setJ, e_nxO, e_setOwn, e_soK_ow, e_soK_io, e_app, e_appB, e_appK, e_appO, e_par, e_parA, e_parK, e_okI, e_iVal, e_iValK, e_items_lst, e_items_tup, e_items_str, e_iZp, e_iZpK, e_zp_l, e_zp_t, e_iRv, e_iRvK, e_rv_l, e_rv_t, e_iRg1, e_iRg1K, e_rg1, e_iRg2, e_iRg2K, e_rg2, e_for, e_forK, e_for_nil, e_for_cons, e_forG, e_forS_nx, e_forS_cnt, e_forS_brk, e_forS_ret, e_forS_exc, e_gVar, e_gvB, e_gTup, e_gTupW, e_gCons, e_gNil, d_add_i, d_add_s, d_add_l, d_add_t, d_mul_i, d_mul_s, d_mul_l, d_fdiv, d_mod, d_pow, d_neg, d_iI, d_ord_i, d_ord_s, d_eq_i, d_eq_s, d_ne_i, d_ne_s, d_len_l, d_len_t, d_abs, d_gcd, d_max2, d_min2, d_tup_l, d_tup_t, d_ix_l, d_ix_t, d_atR, at_0, at_1, at_2, ixn_0, ixn_1, ixn_2, e_run, e_fin_ret, e_fin_nx, e_fin_exc, e_outR, e_outX, e_out_none, e_out_some, e_ioS, e_arg_none, e_arg_nil, e_arg_0, e_arg_s, e_ioD, e_call, e_calK1, e_calK2, e_calO_ret, e_calO_exc, e_callP, e_cpK, e_cpD, e_cpC_s, e_cpC_x, e_cpC_o, e_cpS, e_cpX, e_gnil, e_gv, e_gvK1, e_gvK2, e_gs, e_gsB, e_gsK, e_go, e_goK, e_ads_nil, e_ads_cons, e_adC, e_adC2, e_adD_v, e_adD_s, e_adD_o, e_adO, e_pi, e_piK, e_sl, e_slK1, e_slK2, e_slK3, e_slO, e_part_n, e_part_i, d_slice_l, d_slice_t, e_sl3, e_s3K1, e_s3K2, e_s3K3, e_s3K4, e_s3O, e_lc, e_lcK, e_lcB, e_lcR, e_yes, e_okW2, e_okWS_no, e_okWS_sh, eq_self, log_7, List.length_cons, List.length_nil, List.map_cons, List.map_nil, List.cons_append, List.nil_append, List.replicate_succ, List.replicate_zero, List.append_nil, List.getElem?_cons_zero, List.getElem?_cons_succ, List.getElem?_nil, List.set_cons_zero, List.set_cons_succ, Option.bind_some, Option.bind_none, Option.isSome_some, Nat.reduceAdd, Nat.reduceSub, Nat.reduceLT, Nat.reduceLeDiff, Nat.reduceEqDiff, Int.reduceAdd, Int.reduceMul, Int.reduceNeg, Int.reducePow, Int.reduceLT, Int.reduceLE, and_self, and_true, true_and, if_true, if_false, ↓reduceIte, Bool.not_true, Bool.not_false, decide_true, decide_false, decide_eq_true_eq, List.all_cons, List.all_nil, Bool.and_true, Bool.true_and, Bool.and_self, wipeE, adPl, Int.reduceToNat, rng_5, abs_10, h80, pick_ints, sum_ints]) <;> rfl, by (simp only [e_iEn, e_iEnK, e_enD, e_iZq, e_iZqK, e_zq_ll, e_zq_tt, e_zq_lt, e_zq_tl, e_asgT, e_asgTK, e_asgO, e_call0, List.reverse_cons, List.reverse_nil, e_cmpV, e_cvH, e_cvB, e_cvO, e_cvZ, e_join, e_jK1, e_jK2, e_len_s, e_whK_f, e_whK_t, e_whS, restE, List.getD_cons_zero, List.getD_cons_succ, List.getD_nil, d_pow_6, d_pow_12, d_pow_18, d_pow_30, e_OE_bind_ok, e_OE_bind_exc, e_OE_bindT_ok, e_OE_bindT_exc, e_OE_bindA_ok, e_OE_bindA_exc, e_OE_bindS_ok, e_OE_bindS_exc, e_OE_bindI_ok, e_OE_bindI_exc, e_OE_bindG_ok, e_OE_bindG_exc, e_OT_bind_ok, e_OT_bind_exc, e_OT_bindE_ok, e_OT_bindE_exc, e_OT_bindS_ok, e_OT_bindS_exc, e_OA_bind_ok, e_OA_bind_exc, e_OA_bindE_ok, e_OA_bindE_exc, e_OA_bindI_ok, e_OA_bindI_exc, e_OI_bindE_ok, e_OI_bindE_exc, e_OI_bindS_ok, e_OI_bindS_exc, e_OG_bind_ok, e_OG_bind_exc, e_OG_bindE_ok, e_OG_bindE_exc, e_seq_nx, e_seq_ret, e_seq_brk, e_seq_cnt, e_seq_exc, e_var, e_varK_sh, e_varK_ow, e_mv, e_mvK_sh, e_mvK_ow, e_c, e_okO, e_op2, e_opK1, e_opK2, e_un, e_unK, e_and, e_or, e_not, e_tru, e_andK_t, e_andK_f, e_orK_t, e_orK_f, e_notK, e_truK, e_if, e_tand, e_tor, e_tnot, e_sif, e_ifK_t, e_ifK_f, e_sifK_t, e_sifK_f, e_tandK_t, e_tandK_f, e_torK_t, e_torK_f, e_tnotK, e_nil, e_cons, e_consK1, e_consK2, e_tup, e_lst, e_cb, e_tupK, e_lstK, e_cbK, e_chain, e_chK1, e_chK2, e_chK3, e_chB_t, e_chB_f, e_ixV, e_ixH, e_ixVK, e_ixE_own, e_ixE_sh, e_atO, e_ownAt, e_ownS_ow, e_ownS_io, e_ownS_lst, e_ownS_tup, e_ownS_str, e_ownS_int, e_lenV, e_lenK_own, e_lenK_sh, e_here_no, e_noIo_no, e_Own_no, e_here_sh, e_noIo_sh, e_Own_sh, e_here_ow, e_noIo_ow, e_Own_ow, e_here_io, e_noIo_io, e_Own_io, e_fz_sh, e_fz_ow, e_sv_sh, e_sv_ow, e_ret, e_retK, e_retN, e_expr, e_exprK, e_pass, e_break, e_cont, e_asg, e_asgK, e_asgB, e_sseq, e_set, e_setK1, e_setB, e_setK2, e_setO, e_setJ, e_nxO, e_setOwn, e_soK_ow, e_soK_io, e_app, e_appB, e_appK, e_appO, e_par, e_parA, e_parK, e_okI, e_iVal, e_iValK, e_items_lst, e_items_tup, e_items_str, e_iZp, e_iZpK, e_zp_l, e_zp_t, e_iRv, e_iRvK, e_rv_l, e_rv_t, e_iRg1, e_iRg1K, e_rg1, e_iRg2, e_iRg2K, e_rg2, e_for, e_forK, e_for_nil, e_for_cons, e_forG, e_forS_nx, e_forS_cnt, e_forS_brk, e_forS_ret, e_forS_exc, e_gVar, e_gvB, e_gTup, e_gTupW, e_gCons, e_gNil, d_add_i, d_add_s, d_add_l, d_add_t, d_mul_i, d_mul_s, d_mul_l, d_fdiv, d_mod, d_pow, d_neg, d_iI, d_ord_i, d_ord_s, d_eq_i, d_eq_s, d_ne_i, d_ne_s, d_len_l, d_len_t, d_abs, d_gcd, d_max2, d_min2, d_tup_l, d_tup_t, d_ix_l, d_ix_t, d_atR, at_0, at_1, at_2, ixn_0, ixn_1, ixn_2, e_run, e_fin_ret, e_fin_nx, e_fin_exc, e_outR, e_outX, e_out_none, e_out_some, e_ioS, e_arg_none, e_arg_nil, e_arg_0, e_arg_s, e_ioD, e_call, e_calK1, e_calK2, e_calO_ret, e_calO_exc, e_callP, e_cpK, e_cpD, e_cpC_s, e_cpC_x, e_cpC_o, e_cpS, e_cpX, e_gnil, e_gv, e_gvK1, e_gvK2, e_gs, e_gsB, e_gsK, e_go, e_goK, e_ads_nil, e_ads_cons, e_adC, e_adC2, e_adD_v, e_adD_s, e_adD_o, e_adO, e_pi, e_piK, e_sl, e_slK1, e_slK2, e_slK3, e_slO, e_part_n, e_part_i, d_slice_l, d_slice_t, e_sl3, e_s3K1, e_s3K2, e_s3K3, e_s3K4, e_s3O, e_lc, e_lcK, e_lcB, e_lcR, e_yes, e_okW2, e_okWS_no, e_okWS_sh, eq_self, log_7, List.length_cons, List.length_nil, List.map_cons, List.map_nil, List.cons_append, List.nil_append, List.replicate_succ, List.replicate_zero, List.append_nil, List.getElem?_cons_zero, List.getElem?_cons_succ, List.getElem?_nil, List.set_cons_zero, List.set_cons_succ, Option.bind_some, Option.bind_none, Option.isSome_some, Nat.reduceAdd, Nat.reduceSub, Nat.reduceLT, Nat.reduceLeDiff, Nat.reduceEqDiff, Int.reduceAdd, Int.reduceMul, Int.reduceNeg, Int.reducePow, Int.reduceLT, Int.reduceLE, and_self, and_true, true_and, if_true, if_false, ↓reduceIte, Bool.not_true, Bool.not_false, decide_true, decide_false, decide_eq_true_eq, List.all_cons, List.all_nil, Bool.and_true, Bool.true_and, Bool.and_self, wipeE, adPl, Int.reduceToNat, rng_5, abs_10]), by (simp only [e_iEn, e_iEnK, e_enD, e_iZq, e_iZqK, e_zq_ll, e_zq_tt, e_zq_lt, e_zq_tl, e_asgT, e_asgTK, e_asgO, e_call0, List.reverse_cons, List.reverse_nil, e_cmpV, e_cvH, e_cvB, e_cvO, e_cvZ, e_join, e_jK1, e_jK2, e_len_s, e_whK_f, e_whK_t, e_whS, restE, List.getD_cons_zero, List.getD_cons_succ, List.getD_nil, d_pow_6, d_pow_12, d_pow_18, d_pow_30, e_OE_bind_ok, e_OE_bind_exc, e_OE_bindT_ok, e_OE_bindT_exc, e_OE_bindA_ok, e_OE_bindA_exc, e_OE_bindS_ok, e_OE_bindS_exc, e_OE_bindI_ok, e_OE_bindI_exc, e_OE_bindG_ok, e_OE_bindG_exc, e_OT_bind_ok, e_OT_bind_exc, e_OT_bindE_ok, e_OT_bindE_exc, e_OT_bindS_ok, e_OT_bindS_exc, e_OA_bind_ok, e_OA_bind_exc, e_OA_bindE_ok, e_OA_bindE_exc, e_OA_bindI_ok, e_OA_bindI_exc, e_OI_bindE_ok, e_OI_bindE_exc, e_OI_bindS_ok, e_OI_bindS_exc, e_OG_bind_ok, e_OG_bind_exc, e_OG_bindE_ok, e_OG_bindE_exc, e_seq_nx, e_seq_ret, e_seq_brk, e_seq_cnt, e_seq_exc, e_var, e_varK_sh, e_varK_ow, e_mv, e_mvK_sh, e_mvK_ow, e_c, e_okO, e_op2, e_opK1, e_opK2, e_un, e_unK, e_and, e_or, e_not, e_tru, e_andK_t, e_andK_f, e_orK_t, e_orK_f, e_notK, e_truK, e_if, e_tand, e_tor, e_tnot, e_sif, e_ifK_t, e_ifK_f, e_sifK_t, e_sifK_f, e_tandK_t, e_tandK_f, e_torK_t, e_torK_f, e_tnotK, e_nil, e_cons, e_consK1, e_consK2, e_tup, e_lst, e_cb, e_tupK, e_lstK, e_cbK, e_chain, e_chK1, e_chK2, e_chK3, e_chB_t, e_chB_f, e_ixV, e_ixH, e_ixVK, e_ixE_own, e_ixE_sh, e_atO, e_ownAt, e_ownS_ow, e_ownS_io, e_ownS_lst, e_ownS_tup, e_ownS_str, e_ownS_int, e_lenV, e_lenK_own, e_lenK_sh, e_here_no, e_noIo_no, e_Own_no, e_here_sh, e_noIo_sh, e_Own_sh, e_here_ow, e_noIo_ow, e_Own_ow, e_here_io, e_noIo_io, e_Own_io, e_fz_sh, e_fz_ow, e_sv_sh, e_sv_ow, e_ret, e_retK, e_retN, e_expr, e_exprK, e_pass, e_break, e_cont, e_asg, e_asgK, e_asgB, e_sseq, e_set, e_setK1, e_setB, e_setK2, e_setO, e_setJ, e_nxO, e_setOwn, e_soK_ow, e_soK_io, e_app, e_appB, e_appK, e_appO, e_par, e_parA, e_parK, e_okI, e_iVal, e_iValK, e_items_lst, e_items_tup, e_items_str, e_iZp, e_iZpK, e_zp_l, e_zp_t, e_iRv, e_iRvK, e_rv_l, e_rv_t, e_iRg1, e_iRg1K, e_rg1, e_iRg2, e_iRg2K, e_rg2, e_for, e_forK, e_for_nil, e_for_cons, e_forG, e_forS_nx, e_forS_cnt, e_forS_brk, e_forS_ret, e_forS_exc, e_gVar, e_gvB, e_gTup, e_gTupW, e_gCons, e_gNil, d_add_i, d_add_s, d_add_l, d_add_t, d_mul_i, d_mul_s, d_mul_l, d_fdiv, d_mod, d_pow, d_neg, d_iI, d_ord_i, d_ord_s, d_eq_i, d_eq_s, d_ne_i, d_ne_s, d_len_l, d_len_t, d_abs, d_gcd, d_max2, d_min2, d_tup_l, d_tup_t, d_ix_l, d_ix_t, d_atR, at_0, at_1, at_2, ixn_0, ixn_1, ixn_2, e_run, e_fin_ret, e_fin_nx, e_fin_exc, e_outR, e_outX, e_out_none, e_out_some, e_ioS, e_arg_none, e_arg_nil, e_arg_0, e_arg_s, e_ioD, e_call, e_calK1, e_calK2, e_calO_ret, e_calO_exc, e_callP, e_cpK, e_cpD, e_cpC_s, e_cpC_x, e_cpC_o, e_cpS, e_cpX, e_gnil, e_gv, e_gvK1, e_gvK2, e_gs, e_gsB, e_gsK, e_go, e_goK, e_ads_nil, e_ads_cons, e_adC, e_adC2, e_adD_v, e_adD_s, e_adD_o, e_adO, e_pi, e_piK, e_sl, e_slK1, e_slK2, e_slK3, e_slO, e_part_n, e_part_i, d_slice_l, d_slice_t, e_sl3, e_s3K1, e_s3K2, e_s3K3, e_s3K4, e_s3O, e_lc, e_lcK, e_lcB, e_lcR, e_yes, e_okW2, e_okWS_no, e_okWS_sh, eq_self, log_7, List.length_cons, List.length_nil, List.map_cons, List.map_nil, List.cons_append, List.nil_append, List.replicate_succ, List.replicate_zero, List.append_nil, List.getElem?_cons_zero, List.getElem?_cons_succ, List.getElem?_nil, List.set_cons_zero, List.set_cons_succ, Option.bind_some, Option.bind_none, Option.isSome_some, Nat.reduceAdd, Nat.reduceSub, Nat.reduceLT, Nat.reduceLeDiff, Nat.reduceEqDiff, Int.reduceAdd, Int.reduceMul, Int.reduceNeg, Int.reducePow, Int.reduceLT, Int.reduceLE, and_self, and_true, true_and, if_true, if_false, ↓reduceIte, Bool.not_true, Bool.not_false, decide_true, decide_false, decide_eq_true_eq, List.all_cons, List.all_nil, Bool.and_true, Bool.true_and, Bool.and_self, wipeE, adPl, Int.reduceToNat, rng_5, abs_10]), ?_⟩
    exact ⟨_, rfl⟩)
  obtain ⟨cs, rfl⟩ := q3.ints (fun _ _ h => h)
  have hl2 := q3.length
  rw [rng_len] at hl2
  refine ⟨cs, ?_, by unfold intsL at hl2; rw [List.length_map] at hl2; omega⟩
  simp only [e_iEn, e_iEnK, e_enD, e_iZq, e_iZqK, e_zq_ll, e_zq_tt, e_zq_lt, e_zq_tl, e_asgT, e_asgTK, e_asgO, e_call0, List.reverse_cons, List.reverse_nil, e_cmpV, e_cvH, e_cvB, e_cvO, e_cvZ, e_join, e_jK1, e_jK2, e_len_s, e_whK_f, e_whK_t, e_whS, restE, List.getD_cons_zero, List.getD_cons_succ, List.getD_nil, d_pow_6, d_pow_12, d_pow_18, d_pow_30, e_OE_bind_ok, e_OE_bind_exc, e_OE_bindT_ok, e_OE_bindT_exc, e_OE_bindA_ok, e_OE_bindA_exc, e_OE_bindS_ok, e_OE_bindS_exc, e_OE_bindI_ok, e_OE_bindI_exc, e_OE_bindG_ok, e_OE_bindG_exc, e_OT_bind_ok, e_OT_bind_exc, e_OT_bindE_ok, e_OT_bindE_exc, e_OT_bindS_ok, e_OT_bindS_exc, e_OA_bind_ok, e_OA_bind_exc, e_OA_bindE_ok, e_OA_bindE_exc, e_OA_bindI_ok, e_OA_bindI_exc, e_OI_bindE_ok, e_OI_bindE_exc, e_OI_bindS_ok, e_OI_bindS_exc, e_OG_bind_ok, e_OG_bind_exc, e_OG_bindE_ok, e_OG_bindE_exc, e_seq_nx, e_seq_ret, e_seq_brk, e_seq_cnt, e_seq_exc, e_var, e_varK_sh, e_varK_ow, e_mv, e_mvK_sh, e_mvK_ow, e_c, e_okO, e_op2, e_opK1, e_opK2, e_un, e_unK, e_and, e_or, e_not, e_tru, e_andK_t, e_andK_f, e_orK_t, e_orK_f, e_notK, e_truK, e_if, e_tand, e_tor, e_tnot, e_sif, e_ifK_t, e_ifK_f, e_sifK_t, e_sifK_f, e_tandK_t, e_tandK_f, e_torK_t, e_torK_f, e_tnotK, e_nil, e_cons, e_consK1, e_consK2, e_tup, e_lst, e_cb, e_tupK, e_lstK, e_cbK, e_chain, e_chK1, e_chK2, e_chK3, e_chB_t, e_chB_f, e_ixV, e_ixH, e_ixVK, e_ixE_own, e_ixE_sh, e_atO, e_ownAt, e_ownS_ow, e_ownS_io, e_ownS_lst, e_ownS_tup, e_ownS_str, e_ownS_int, e_lenV, e_lenK_own, e_lenK_sh, e_here_no, e_noIo_no, e_Own_no, e_here_sh, e_noIo_sh, e_Own_sh, e_here_ow, e_noIo_ow, e_Own_ow, e_here_io, e_noIo_io, e_Own_io, e_fz_sh, e_fz_ow, e_sv_sh, e_sv_ow, e_ret, e_retK, e_retN, e_expr, e_exprK, e_pass, e_break, e_cont, e_asg, e_asgK, e_asgB, e_sseq, e_set, e_setK1, e_setB, e_setK2, e_setO, e_setJ, e_nxO, e_setOwn, e_soK_ow, e_soK_io, e_app, e_appB, e_appK, e_appO, e_par, e_parA, e_parK, e_okI, e_iVal, e_iValK, e_items_lst, e_items_tup, e_items_str, e_iZp, e_iZpK, e_zp_l, e_zp_t, e_iRv, e_iRvK, e_rv_l, e_rv_t, e_iRg1, e_iRg1K, e_rg1, e_iRg2, e_iRg2K, e_rg2, e_for, e_forK, e_for_nil, e_for_cons, e_forG, e_forS_nx, e_forS_cnt, e_forS_brk, e_forS_ret, e_forS_exc, e_gVar, e_gvB, e_gTup, e_gTupW, e_gCons, e_gNil, d_add_i, d_add_s, d_add_l, d_add_t, d_mul_i, d_mul_s, d_mul_l, d_fdiv, d_mod, d_pow, d_neg, d_iI, d_ord_i, d_ord_s, d_eq_i, d_eq_s, d_ne_i, d_ne_s, d_len_l, d_len_t, d_abs, d_gcd, d_max2, d_min2, d_tup_l, d_tup_t, d_ix_l, d_ix_t, d_atR, at_0, at_1, at_2, ixn_0, ixn_1, ixn_2, e_run, e_fin_ret, e_fin_nx, e_fin_exc, e_outR, e_outX, e_out_none, e_out_some, e_ioS, e_arg_none, e_arg_nil, e_arg_0, e_arg_s, e_ioD, e_call, e_calK1, e_calK2, e_calO_ret, e_calO_exc, e_callP, e_cpK, e_cpD, e_cpC_s, e_cpC_x, e_cpC_o, e_cpS, e_cpX, e_gnil, e_gv, e_gvK1, e_gvK2, e_gs, e_gsB, e_gsK, e_go, e_goK, e_ads_nil, e_ads_cons, e_adC, e_adC2, e_adD_v, e_adD_s, e_adD_o, e_adO, e_pi, e_piK, e_sl, e_slK1, e_slK2, e_slK3, e_slO, e_part_n, e_part_i, d_slice_l, d_slice_t, e_sl3, e_s3K1, e_s3K2, e_s3K3, e_s3K4, e_s3O, e_lc, e_lcK, e_lcB, e_lcR, e_yes, e_okW2, e_okWS_no, e_okWS_sh, eq_self, log_7, List.length_cons, List.length_nil, List.map_cons, List.map_nil, List.cons_append, List.nil_append, List.replicate_succ, List.replicate_zero, List.append_nil, List.getElem?_cons_zero, List.getElem?_cons_succ, List.getElem?_nil, List.set_cons_zero, List.set_cons_succ, Option.bind_some, Option.bind_none, Option.isSome_some, Nat.reduceAdd, Nat.reduceSub, Nat.reduceLT, Nat.reduceLeDiff, Nat.reduceEqDiff, Int.reduceAdd, Int.reduceMul, Int.reduceNeg, Int.reducePow, Int.reduceLT, Int.reduceLE, and_self, and_true, true_and, if_true, if_false, ↓reduceIte, Bool.not_true, Bool.not_false, decide_true, decide_false, decide_eq_true_eq, List.all_cons, List.all_nil, Bool.and_true, Bool.true_and, Bool.and_self, wipeE, adPl, Int.reduceToNat, rng_5, abs_10]
  rw [q1, q2]
  simp only [e_iEn, e_iEnK, e_enD, e_iZq, e_iZqK, e_zq_ll, e_zq_tt, e_zq_lt, e_zq_tl, e_asgT, e_asgTK, e_asgO, e_call0, List.reverse_cons, List.reverse_nil, e_cmpV, e_cvH, e_cvB, e_cvO, e_cvZ, e_join, e_jK1, e_jK2, e_len_s, e_whK_f, e_whK_t, e_whS, restE, List.getD_cons_zero, List.getD_cons_succ, List.getD_nil, d_pow_6, d_pow_12, d_pow_18, d_pow_30, e_OE_bind_ok, e_OE_bind_exc, e_OE_bindT_ok, e_OE_bindT_exc, e_OE_bindA_ok, e_OE_bindA_exc, e_OE_bindS_ok, e_OE_bindS_exc, e_OE_bindI_ok, e_OE_bindI_exc, e_OE_bindG_ok, e_OE_bindG_exc, e_OT_bind_ok, e_OT_bind_exc, e_OT_bindE_ok, e_OT_bindE_exc, e_OT_bindS_ok, e_OT_bindS_exc, e_OA_bind_ok, e_OA_bind_exc, e_OA_bindE_ok, e_OA_bindE_exc, e_OA_bindI_ok, e_OA_bindI_exc, e_OI_bindE_ok, e_OI_bindE_exc, e_OI_bindS_ok, e_OI_bindS_exc, e_OG_bind_ok, e_OG_bind_exc, e_OG_bindE_ok, e_OG_bindE_exc, e_seq_nx, e_seq_ret, e_seq_brk, e_seq_cnt, e_seq_exc, e_var, e_varK_sh, e_varK_ow, e_mv, e_mvK_sh, e_mvK_ow, e_c, e_okO, e_op2, e_opK1, e_opK2, e_un, e_unK, e_and, e_or, e_not, e_tru, e_andK_t, e_andK_f, e_orK_t, e_orK_f, e_notK, e_truK, e_if, e_tand, e_tor, e_tnot, e_sif, e_ifK_t, e_ifK_f, e_sifK_t, e_sifK_f, e_tandK_t, e_tandK_f, e_torK_t, e_torK_f, e_tnotK, e_nil, e_cons, e_consK1, e_consK2, e_tup, e_lst, e_cb, e_tupK, e_lstK, e_cbK, e_chain, e_chK1, e_chK2, e_chK3, e_chB_t, e_chB_f, e_ixV, e_ixH, e_ixVK, e_ixE_own, e_ixE_sh, e_atO, e_ownAt, e_ownS_ow, e_ownS_io, e_ownS_lst, e_ownS_tup, e_ownS_str, e_ownS_int, e_lenV, e_lenK_own, e_lenK_sh, e_here_no, e_noIo_no, e_Own_no, e_here_sh, e_noIo_sh, e_Own_sh, e_here_ow, e_noIo_ow, e_Own_ow, e_here_io, e_noIo_io, e_Own_io, e_fz_sh, e_fz_ow, e_sv_sh, e_sv_ow, e_ret, e_retK, e_retN, e_expr, e_exprK, e_pass, e_break, e_cont, e_asg, e_asgK, e_asgB, e_sseq, e_set, e_setK1, e_setB, e_setK2, e_setO, e_setJ, e_nxO, e_setOwn, e_soK_ow, e_soK_io, e_app, e_appB, e_appK, e_appO, e_par, e_parA, e_parK, e_okI, e_iVal, e_iValK, e_items_lst, e_items_tup, e_items_str, e_iZp, e_iZpK, e_zp_l, e_zp_t, e_iRv, e_iRvK, e_rv_l, e_rv_t, e_iRg1, e_iRg1K, e_rg1, e_iRg2, e_iRg2K, e_rg2, e_for, e_forK, e_for_nil, e_for_cons, e_forG, e_forS_nx, e_forS_cnt, e_forS_brk, e_forS_ret, e_forS_exc, e_gVar, e_gvB, e_gTup, e_gTupW, e_gCons, e_gNil, d_add_i, d_add_s, d_add_l, d_add_t, d_mul_i, d_mul_s, d_mul_l, d_fdiv, d_mod, d_pow, d_neg, d_iI, d_ord_i, d_ord_s, d_eq_i, d_eq_s, d_ne_i, d_ne_s, d_len_l, d_len_t, d_abs, d_gcd, d_max2, d_min2, d_tup_l, d_tup_t, d_ix_l, d_ix_t, d_atR, at_0, at_1, at_2, ixn_0, ixn_1, ixn_2, e_run, e_fin_ret, e_fin_nx, e_fin_exc, e_outR, e_outX, e_out_none, e_out_some, e_ioS, e_arg_none, e_arg_nil, e_arg_0, e_arg_s, e_ioD, e_call, e_calK1, e_calK2, e_calO_ret, e_calO_exc, e_callP, e_cpK, e_cpD, e_cpC_s, e_cpC_x, e_cpC_o, e_cpS, e_cpX, e_gnil, e_gv, e_gvK1, e_gvK2, e_gs, e_gsB, e_gsK, e_go, e_goK, e_ads_nil, e_ads_cons, e_adC, e_adC2, e_adD_v, e_adD_s, e_adD_o, e_adO, e_pi, e_piK, e_sl, e_slK1, e_slK2, e_slK3, e_slO, e_part_n, e_part_i, d_slice_l, d_slice_t, e_sl3, e_s3K1, e_s3K2, e_s3K3, e_s3K4, e_s3O, e_lc, e_lcK, e_lcB, e_lcR, e_yes, e_okW2, e_okWS_no, e_okWS_sh, eq_self, log_7, List.length_cons, List.length_nil, List.map_cons, List.map_nil, List.cons_append, List.nil_append, List.replicate_succ, List.replicate_zero, List.append_nil, List.getElem?_cons_zero, List.getElem?_cons_succ, List.getElem?_nil, List.set_cons_zero, List.set_cons_succ, Option.bind_some, Option.bind_none, Option.isSome_some, Nat.reduceAdd, Nat.reduceSub, Nat.reduceLT, Nat.reduceLeDiff, Nat.reduceEqDiff, Int.reduceAdd, Int.reduceMul, Int.reduceNeg, Int.reducePow, Int.reduceLT, Int.reduceLE, and_self, and_true, true_and, if_true, if_false, ↓reduceIte, Bool.not_true, Bool.not_false, decide_true, decide_false, decide_eq_true_eq, List.all_cons, List.all_nil, Bool.and_true, Bool.true_and, Bool.and_self, wipeE, adPl, Int.reduceToNat, rng_5, abs_10]
theorem repr_int {i : Int} (h1 : -(10 ^ 300) ≤ i) (h2 : i ≤ 10 ^ 300) : ∃ S, reprF [.int i] = some (.sh (.str S)) := ⟨_, repr_ok (showInt h1 h2) (by decide) (by decide)⟩
theorem repr_1 : reprF [.int 1] = some (.sh (.str "1")) := by
  rw [repr_ok (showInt (i := 1) (by omega) (by omega)) (by decide) (by decide)]
  rfl
theorem repr_0 : reprF [.int 0] = some (.sh (.str "0")) := by
  rw [repr_ok (showInt (i := 0) (by omega) (by omega)) (by decide) (by decide)]
  rfl
theorem due_for (s0 s1 s2 s3 : SV) : ∀ (ns : List Int) (d : Nat) (s5 : SV), (∀ y ∈ ns, -(10 ^ 60) ≤ y ∧ y ≤ 10 ^ 60) → okWS (some s5) = true → noIo (some s5) = true → ∃ s, okWS (some s) = true ∧ noIo (some s) = true ∧
    forL (gVar 5) (sAsg 4 (oCall f__law_common 2 0 (fun ds _ => ds) (oCons (oVar 4) (oCons (oCallB (intF fun i => if i < 0 then -i else i) (oCons (oVar 5) oNil)) oNil)) oNil)) (intsL ns) [s0, s1, s2, s3, .sh (.int (d : Int)), s5, .no, .no, .no, .no, .no, .no, .no] =
      .nx [s0, s1, s2, s3, .sh (.int ((gf d ns : Nat) : Int)), s, .no, .no, .no, .no, .no, .no, .no]
  | [], d, s5, _, h1, h2 => ⟨s5, h1, h2, rfl⟩
  | n :: ns, d, s5, hb, h1, h2 => by
    have hn := hb n List.mem_cons_self
    obtain ⟨s, k1, k2, k3⟩ := due_for s0 s1 s2 s3 ns (Nat.gcd d n.natAbs) (.sh (.int n)) (fun y hy => hb y (List.mem_cons_of_mem _ hy)) rfl rfl
    refine ⟨s, k1, k2, ?_⟩
    have hc : n.natAbs ≤ 10 ^ 300 := by omega
    show forL _ _ (.int n :: intsL ns) _ = _
    simp only [e_iEn, e_iEnK, e_enD, e_iZq, e_iZqK, e_zq_ll, e_zq_tt, e_zq_lt, e_zq_tl, e_asgT, e_asgTK, e_asgO, e_call0, List.reverse_cons, List.reverse_nil, e_cmpV, e_cvH, e_cvB, e_cvO, e_cvZ, e_join, e_jK1, e_jK2, e_len_s, e_whK_f, e_whK_t, e_whS, restE, List.getD_cons_zero, List.getD_cons_succ, List.getD_nil, d_pow_6, d_pow_12, d_pow_18, d_pow_30, e_OE_bind_ok, e_OE_bind_exc, e_OE_bindT_ok, e_OE_bindT_exc, e_OE_bindA_ok, e_OE_bindA_exc, e_OE_bindS_ok, e_OE_bindS_exc, e_OE_bindI_ok, e_OE_bindI_exc, e_OE_bindG_ok, e_OE_bindG_exc, e_OT_bind_ok, e_OT_bind_exc, e_OT_bindE_ok, e_OT_bindE_exc, e_OT_bindS_ok, e_OT_bindS_exc, e_OA_bind_ok, e_OA_bind_exc, e_OA_bindE_ok, e_OA_bindE_exc, e_OA_bindI_ok, e_OA_bindI_exc, e_OI_bindE_ok, e_OI_bindE_exc, e_OI_bindS_ok, e_OI_bindS_exc, e_OG_bind_ok, e_OG_bind_exc, e_OG_bindE_ok, e_OG_bindE_exc, e_seq_nx, e_seq_ret, e_seq_brk, e_seq_cnt, e_seq_exc, e_var, e_varK_sh, e_varK_ow, e_mv, e_mvK_sh, e_mvK_ow, e_c, e_okO, e_op2, e_opK1, e_opK2, e_un, e_unK, e_and, e_or, e_not, e_tru, e_andK_t, e_andK_f, e_orK_t, e_orK_f, e_notK, e_truK, e_if, e_tand, e_tor, e_tnot, e_sif, e_ifK_t, e_ifK_f, e_sifK_t, e_sifK_f, e_tandK_t, e_tandK_f, e_torK_t, e_torK_f, e_tnotK, e_nil, e_cons, e_consK1, e_consK2, e_tup, e_lst, e_cb, e_tupK, e_lstK, e_cbK, e_chain, e_chK1, e_chK2, e_chK3, e_chB_t, e_chB_f, e_ixV, e_ixH, e_ixVK, e_ixE_own, e_ixE_sh, e_atO, e_ownAt, e_ownS_ow, e_ownS_io, e_ownS_lst, e_ownS_tup, e_ownS_str, e_ownS_int, e_lenV, e_lenK_own, e_lenK_sh, e_here_no, e_noIo_no, e_Own_no, e_here_sh, e_noIo_sh, e_Own_sh, e_here_ow, e_noIo_ow, e_Own_ow, e_here_io, e_noIo_io, e_Own_io, e_fz_sh, e_fz_ow, e_sv_sh, e_sv_ow, e_ret, e_retK, e_retN, e_expr, e_exprK, e_pass, e_break, e_cont, e_asg, e_asgK, e_asgB, e_sseq, e_set, e_setK1, e_setB, e_setK2, e_setO, e_setJ, e_nxO, e_setOwn, e_soK_ow, e_soK_io, e_app, e_appB, e_appK, e_appO, e_par, e_parA, e_parK, e_okI, e_iVal, e_iValK, e_items_lst, e_items_tup, e_items_str, e_iZp, e_iZpK, e_zp_l, e_zp_t, e_iRv, e_iRvK, e_rv_l, e_rv_t, e_iRg1, e_iRg1K, e_rg1, e_iRg2, e_iRg2K, e_rg2, e_for, e_forK, e_for_nil, e_for_cons, e_forG, e_forS_nx, e_forS_cnt, e_forS_brk, e_forS_ret, e_forS_exc, e_gVar, e_gvB, e_gTup, e_gTupW, e_gCons, e_gNil, d_add_i, d_add_s, d_add_l, d_add_t, d_mul_i, d_mul_s, d_mul_l, d_fdiv, d_mod, d_pow, d_neg, d_iI, d_ord_i, d_ord_s, d_eq_i, d_eq_s, d_ne_i, d_ne_s, d_len_l, d_len_t, d_abs, d_gcd, d_max2, d_min2, d_tup_l, d_tup_t, d_ix_l, d_ix_t, d_atR, at_0, at_1, at_2, ixn_0, ixn_1, ixn_2, e_run, e_fin_ret, e_fin_nx, e_fin_exc, e_outR, e_outX, e_out_none, e_out_some, e_ioS, e_arg_none, e_arg_nil, e_arg_0, e_arg_s, e_ioD, e_call, e_calK1, e_calK2, e_calO_ret, e_calO_exc, e_callP, e_cpK, e_cpD, e_cpC_s, e_cpC_x, e_cpC_o, e_cpS, e_cpX, e_gnil, e_gv, e_gvK1, e_gvK2, e_gs, e_gsB, e_gsK, e_go, e_goK, e_ads_nil, e_ads_cons, e_adC, e_adC2, e_adD_v, e_adD_s, e_adD_o, e_adO, e_pi, e_piK, e_sl, e_slK1, e_slK2, e_slK3, e_slO, e_part_n, e_part_i, d_slice_l, d_slice_t, e_sl3, e_s3K1, e_s3K2, e_s3K3, e_s3K4, e_s3O, e_lc, e_lcK, e_lcB, e_lcR, e_yes, e_okW2, e_okWS_no, e_okWS_sh, eq_self, log_7, List.length_cons, List.length_nil, List.map_cons, List.map_nil, List.cons_append, List.nil_append, List.replicate_succ, List.replicate_zero, List.append_nil, List.getElem?_cons_zero, List.getElem?_cons_succ, List.getElem?_nil, List.set_cons_zero, List.set_cons_succ, Option.bind_some, Option.bind_none, Option.isSome_some, Nat.reduceAdd, Nat.reduceSub, Nat.reduceLT, Nat.reduceLeDiff, Nat.reduceEqDiff, Int.reduceAdd, Int.reduceMul, Int.reduceNeg, Int.reducePow, Int.reduceLT, Int.reduceLE, and_self, and_true, true_and, if_true, if_false, ↓reduceIte, Bool.not_true, Bool.not_false, decide_true, decide_false, decide_eq_true_eq, List.all_cons, List.all_nil, Bool.and_true, Bool.true_and, Bool.and_self, wipeE, adPl, Int.reduceToNat, rng_5, abs_10, h2, common_p d n.natAbs hc]
    exact k3
def tailR : FE.Env → OS := sSeq (sAsg 11 (oOp2 mulF' (oCallP f__law_great 1 0 (oGs 0 oGnil)) (oOp2 ixF (oLst (oCons (oC (.int 1)) (oCons (oUn negF (oC (.int 1))) oNil))) (oCallP f__law_take 2 0 (oGs 0 (oGv (oC (.int 2)) oGnil)))))) (sSeq (sIf (oTru (oOp2 neF (oCallB reprF (oCons (oCall f_divisor_of 1 0 (fun ds _ => ds) (oCons (oCall f_added 2 1 (fun ds es => ds ++ es) (oCons (oLst (oCons (oOp2 addF (oLst (oCons (oVar 3) oNil)) (oVar 2)) oNil)) (oCons (oLst (oCons (oVar 11) oNil)) oNil)) (oCons (oLenV 2) oNil)) oNil) oNil) oNil)) (oCallB reprF (oCons (oOp2 mulF' (oVar 4) (oCallB (intF fun i => if i < 0 then -i else i) (oCons (oVar 11) oNil))) oNil)))) (sRet (oC (.bl false))) sPass) (sRet (oOp2 eqF (oCallB reprF (oCons (oVar 8) oNil)) (oVar 9))))
theorem tailR_eq : tailR = sSeq (sAsg 11 (oOp2 mulF' (oCallP f__law_great 1 0 (oGs 0 oGnil)) (oOp2 ixF (oLst (oCons (oC (.int 1)) (oCons (oUn negF (oC (.int 1))) oNil))) (oCallP f__law_take 2 0 (oGs 0 (oGv (oC (.int 2)) oGnil)))))) (sSeq (sIf (oTru (oOp2 neF (oCallB reprF (oCons (oCall f_divisor_of 1 0 (fun ds _ => ds) (oCons (oCall f_added 2 1 (fun ds es => ds ++ es) (oCons (oLst (oCons (oOp2 addF (oLst (oCons (oVar 3) oNil)) (oVar 2)) oNil)) (oCons (oLst (oCons (oVar 11) oNil)) oNil)) (oCons (oLenV 2) oNil)) oNil) oNil) oNil)) (oCallB reprF (oCons (oOp2 mulF' (oVar 4) (oCallB (intF fun i => if i < 0 then -i else i) (oCons (oVar 11) oNil))) oNil)))) (sRet (oC (.bl false))) sPass) (sRet (oOp2 eqF (oCallB reprF (oCons (oVar 8) oNil)) (oVar 9)))) := rfl
theorem right_p {n : Int} {p : List D} (h : Pk n p) (hn : n + 1000 < 10 ^ 6) : ∃ p', f__law_right [.lst p] = .ret (.sh (.bl true)) p' := by
  -- the base
  obtain ⟨v1, p1, e1, a1, b1, h1⟩ := take_p h (m := 60) (by omega) (by omega) (by omega)
  obtain ⟨v2, p2, e2, a2, b2, h2⟩ := great_p h1 (by omega)
  obtain ⟨w, p3, e3, a3, b3, h3⟩ := take_p h2 (m := 3) (by omega) (by omega) (by omega)
  obtain ⟨b, ib, bb1, bb2⟩ : ∃ x, L2.atI [D.int 1, D.int (1 + v1), D.int (1 + v2 % 1000000000000)] w = some (.int x) ∧ 1 ≤ x ∧ x ≤ 10 ^ 12 := by
    rcases (show w = 0 ∨ w = 1 ∨ w = 2 by omega) with rfl | rfl | rfl
    · exact ⟨_, rfl, by omega, by omega⟩
    · exact ⟨_, rfl, by omega, by omega⟩
    · exact ⟨_, rfl, by omega, by omega⟩
  -- how many
  obtain ⟨w2, p4, e4, a4, b4, h4⟩ := take_p h3 (m := 2) (by omega) (by omega) (by omega)
  obtain ⟨q, iq, q1, q2⟩ : ∃ x, L2.atI [D.int 11, D.int 21] w2 = some (.int x) ∧ 1 ≤ x ∧ x ≤ 21 := by
    rcases (show w2 = 0 ∨ w2 = 1 by omega) with rfl | rfl
    · exact ⟨_, rfl, by omega, by omega⟩
    · exact ⟨_, rfl, by omega, by omega⟩
  obtain ⟨cnt, p5, e5, a5, b5, h5⟩ := take_p h4 (m := q) (by omega) q1 (by omega)
  -- the coefs
  obtain ⟨rs, env', l1, ⟨p6, h6, l2⟩, l3⟩ := lcL_inv (f := gVar 12) (ot := oYes) (oe := oOp2 mulF' (oVar 1) (oCallP f__law_factor 1 0 (oGs 0 oGnil))) (ws := [12]) (fun k e => ∃ p, Pk (n + 20 + 9 * k) p ∧ e = [SV.io p, .sh (.int b), .no, .no, .no, .no, .no, .no, .no, .no, .no, .no, .no]) (fun _ r => ∃ i : Int, r = .int i ∧ (-(10 ^ 30) ≤ i ∧ i ≤ 10 ^ 30)) (rngD 0 cnt.toNat) 0 [SV.io p5, .sh (.int b), .no, .no, .no, .no, .no, .no, .no, .no, .no, .no, .no] [] (by rw [rng_len, List.length_nil]; omega) ⟨p5, h5.mono (by omega), rfl⟩ (by
    rintro k d env _ hk hd ⟨p, hp, rfl⟩
    rw [rng_len] at hk
    obtain ⟨j, rfl⟩ : ∃ j, d = .int j := by
      obtain ⟨i, hi⟩ := List.getElem?_of_mem hd
      exact ⟨_, rng_get hi⟩
    obtain ⟨f, pf, ef, af, bf, hf⟩ := factor_p hp (by omega)
    have hbf := mul_le_big (i := b) (j := f) (a := 10 ^ 12) (b := 10 ^ 18) (by omega) (by omega) (by omega) (by omega)
    refine ⟨_, _, _, _, by (simp only [e_iEn, e_iEnK, e_enD, e_iZq, e_iZqK, e_zq_ll, e_zq_tt, e_zq_lt, e_zq_tl, e_asgT, e_asgTK, e_asgO, e_call0, List.reverse_cons, List.reverse_nil, e_cmpV, e_cvH, e_cvB, e_cvO, e_cvZ, e_join, e_jK1, e_jK2, e_len_s, e_whK_f, e_whK_t, e_whS, restE, List.getD_cons_zero, List.getD_cons_succ, List.getD_nil, d_pow_6, d_pow_12, d_pow_18, d_pow_30, e_OE_bind_ok, e_OE_bind_exc, e_OE_bindT_ok, e_OE_bindT_exc, e_OE_bindA_ok, e_OE_bindA_exc, e_OE_bindS_ok, e_OE_bindS_exc, e_OE_bindI_ok, e_OE_bindI_exc, e_OE_bindG_ok, e_OE_bindG_exc, e_OT_bind_ok, e_OT_bind_exc, e_OT_bindE_ok, e_OT_bindE_exc, e_OT_bindS_ok, e_OT_bindS_exc, e_OA_bind_ok, e_OA_bind_exc, e_OA_bindE_ok, e_OA_bindE_exc, e_OA_bindI_ok, e_OA_bindI_exc, e_OI_bindE_ok, e_OI_bindE_exc, e_OI_bindS_ok, e_OI_bindS_exc, e_OG_bind_ok, e_OG_bind_exc, e_OG_bindE_ok, e_OG_bindE_exc, e_seq_nx, e_seq_ret, e_seq_brk, e_seq_cnt, e_seq_exc, e_var, e_varK_sh, e_varK_ow, e_mv, e_mvK_sh, e_mvK_ow, e_c, e_okO, e_op2, e_opK1, e_opK2, e_un, e_unK, e_and, e_or, e_not, e_tru, e_andK_t, e_andK_f, e_orK_t, e_orK_f, e_notK, e_truK, e_if, e_tand, e_tor, e_tnot, e_sif, e_ifK_t, e_ifK_f, e_sifK_t, e_sifK_f, e_tandK_t, e_tandK_f, e_torK_t, e_torK_f, e_tnotK, e_nil, e_cons, e_consK1, e_consK2, e_tup, e_lst, e_cb, e_tupK, e_lstK, e_cbK, e_chain, e_chK1, e_chK2, e_chK3, e_chB_t, e_chB_f, e_ixV, e_ixH, e_ixVK, e_ixE_own, e_ixE_sh, e_atO, e_ownAt, e_ownS_ow, e_ownS_io, e_ownS_lst, e_ownS_tup, e_ownS_str, e_ownS_int, e_lenV, e_lenK_own, e_lenK_sh, e_here_no, e_noIo_no, e_Own_no, e_here_sh, e_noIo_sh, e_Own_sh, e_here_ow, e_noIo_ow, e_Own_ow, e_here_io, e_noIo_io, e_Own_io, e_fz_sh, e_fz_ow, e_sv_sh, e_sv_ow, e_ret, e_retK, e_retN, e_expr, e_exprK, e_pass, e_break, e_cont, e_asg, e_asgK, e_asgB, e_sseq, e_set, e_setK1, e_setB, e_setK2, e_setO, e_setJ, e_nxO, e_setOwn, e_soK_ow, e_soK_io, e_app, e_appB, e_appK, e_appO, e_par, e_parA, e_parK, e_okI, e_iVal, e_iValK, e_items_lst, e_items_tup, e_items_str, e_iZp, e_iZpK, e_zp_l, e_zp_t, e_iRv, e_iRvK, e_rv_l, e_rv_t, e_iRg1, e_iRg1K, e_rg1, e_iRg2, e_iRg2K, e_rg2, e_for, e_forK, e_for_nil, e_for_cons, e_forG, e_forS_nx, e_forS_cnt, e_forS_brk, e_forS_ret, e_forS_exc, e_gVar, e_gvB, e_gTup, e_gTupW, e_gCons, e_gNil, d_add_i, d_add_s, d_add_l, d_add_t, d_mul_i, d_mul_s, d_mul_l, d_fdiv, d_mod, d_pow, d_neg, d_iI, d_ord_i, d_ord_s, d_eq_i, d_eq_s, d_ne_i, d_ne_s, d_len_l, d_len_t, d_abs, d_gcd, d_max2, d_min2, d_tup_l, d_tup_t, d_ix_l, d_ix_t, d_atR, at_0, at_1, at_2, ixn_0, ixn_1, ixn_2, e_run, e_fin_ret, e_fin_nx, e_fin_exc, e_outR, e_outX, e_out_none, e_out_some, e_ioS, e_arg_none, e_arg_nil, e_arg_0, e_arg_s, e_ioD, e_call, e_calK1, e_calK2, e_calO_ret, e_calO_exc, e_callP, e_cpK, e_cpD, e_cpC_s, e_cpC_x, e_cpC_o, e_cpS, e_cpX, e_gnil, e_gv, e_gvK1, e_gvK2, e_gs, e_gsB, e_gsK, e_go, e_goK, e_ads_nil, e_ads_cons, e_adC, e_adC2, e_adD_v, e_adD_s, e_adD_o, e_adO, e_pi, e_piK, e_sl, e_slK1, e_slK2, e_slK3, e_slO, e_part_n, e_part_i, d_slice_l, d_slice_t, e_sl3, e_s3K1, e_s3K2, e_s3K3, e_s3K4, e_s3O, e_lc, e_lcK, e_lcB, e_lcR, e_yes, e_okW2, e_okWS_no, e_okWS_sh, eq_self, log_7, List.length_cons, List.length_nil, List.map_cons, List.map_nil, List.cons_append, List.nil_append, List.replicate_succ, List.replicate_zero, List.append_nil, List.getElem?_cons_zero, List.getElem?_cons_succ, List.getElem?_nil, List.set_cons_zero, List.set_cons_succ, Option.bind_some, Option.bind_none, Option.isSome_some, Nat.reduceAdd, Nat.reduceSub, Nat.reduceLT, Nat.reduceLeDiff, Nat.reduceEqDiff, Int.reduceAdd, Int.reduceMul, Int.reduceNeg, Int.reducePow, Int.reduceLT, Int.reduceLE, and_self, and_true, true_and, if_true, if_false, ↓reduceIte, Bool.not_true, Bool.not_false, decide_true, decide_false, decide_eq_true_eq, List.all_cons, List.all_nil, Bool.and_true, Bool.true_and, Bool.and_self, wipeE, adPl, Int.reduceToNat, rng_5, abs_10]) <;> rfl, by (simp only [e_iEn, e_iEnK, e_enD, e_iZq, e_iZqK, e_zq_ll, e_zq_tt, e_zq_lt, e_zq_tl, e_asgT, e_asgTK, e_asgO, e_call0, List.reverse_cons, List.reverse_nil, e_cmpV, e_cvH, e_cvB, e_cvO, e_cvZ, e_join, e_jK1, e_jK2, e_len_s, e_whK_f, e_whK_t, e_whS, restE, List.getD_cons_zero, List.getD_cons_succ, List.getD_nil, d_pow_6, d_pow_12, d_pow_18, d_pow_30, e_OE_bind_ok, e_OE_bind_exc, e_OE_bindT_ok, e_OE_bindT_exc, e_OE_bindA_ok, e_OE_bindA_exc, e_OE_bindS_ok, e_OE_bindS_exc, e_OE_bindI_ok, e_OE_bindI_exc, e_OE_bindG_ok, e_OE_bindG_exc, e_OT_bind_ok, e_OT_bind_exc, e_OT_bindE_ok, e_OT_bindE_exc, e_OT_bindS_ok, e_OT_bindS_exc, e_OA_bind_ok, e_OA_bind_exc, e_OA_bindE_ok, e_OA_bindE_exc, e_OA_bindI_ok, e_OA_bindI_exc, e_OI_bindE_ok, e_OI_bindE_exc, e_OI_bindS_ok, e_OI_bindS_exc, e_OG_bind_ok, e_OG_bind_exc, e_OG_bindE_ok, e_OG_bindE_exc, e_seq_nx, e_seq_ret, e_seq_brk, e_seq_cnt, e_seq_exc, e_var, e_varK_sh, e_varK_ow, e_mv, e_mvK_sh, e_mvK_ow, e_c, e_okO, e_op2, e_opK1, e_opK2, e_un, e_unK, e_and, e_or, e_not, e_tru, e_andK_t, e_andK_f, e_orK_t, e_orK_f, e_notK, e_truK, e_if, e_tand, e_tor, e_tnot, e_sif, e_ifK_t, e_ifK_f, e_sifK_t, e_sifK_f, e_tandK_t, e_tandK_f, e_torK_t, e_torK_f, e_tnotK, e_nil, e_cons, e_consK1, e_consK2, e_tup, e_lst, e_cb, e_tupK, e_lstK, e_cbK, e_chain, e_chK1, e_chK2, e_chK3, e_chB_t, e_chB_f, e_ixV, e_ixH, e_ixVK, e_ixE_own, e_ixE_sh, e_atO, e_ownAt, e_ownS_ow, e_ownS_io, e_ownS_lst, e_ownS_tup, e_ownS_str, e_ownS_int, e_lenV, e_lenK_own, e_lenK_sh, e_here_no, e_noIo_no, e_Own_no, e_here_sh, e_noIo_sh, e_Own_sh, e_here_ow, e_noIo_ow, e_Own_ow, e_here_io, e_noIo_io, e_Own_io, e_fz_sh, e_fz_ow, e_sv_sh, e_sv_ow, e_ret, e_retK, e_retN, e_expr, e_exprK, e_pass, e_break, e_cont, e_asg, e_asgK, e_asgB, e_sseq, e_set, e_setK1, e_setB, e_setK2, e_setO, e_setJ, e_nxO, e_setOwn, e_soK_ow, e_soK_io, e_app, e_appB, e_appK, e_appO, e_par, e_parA, e_parK, e_okI, e_iVal, e_iValK, e_items_lst, e_items_tup, e_items_str, e_iZp, e_iZpK, e_zp_l, e_zp_t, e_iRv, e_iRvK, e_rv_l, e_rv_t, e_iRg1, e_iRg1K, e_rg1, e_iRg2, e_iRg2K, e_rg2, e_for, e_forK, e_for_nil, e_for_cons, e_forG, e_forS_nx, e_forS_cnt, e_forS_brk, e_forS_ret, e_forS_exc, e_gVar, e_gvB, e_gTup, e_gTupW, e_gCons, e_gNil, d_add_i, d_add_s, d_add_l, d_add_t, d_mul_i, d_mul_s, d_mul_l, d_fdiv, d_mod, d_pow, d_neg, d_iI, d_ord_i, d_ord_s, d_eq_i, d_eq_s, d_ne_i, d_ne_s, d_len_l, d_len_t, d_abs, d_gcd, d_max2, d_min2, d_tup_l, d_tup_t, d_ix_l, d_ix_t, d_atR, at_0, at_1, at_2, ixn_0, ixn_1, ixn_2, e_run, e_fin_ret, e_fin_nx, e_fin_exc, e_outR, e_outX, e_out_none, e_out_some, e_ioS, e_arg_none, e_arg_nil, e_arg_0, e_arg_s, e_ioD, e_call, e_calK1, e_calK2, e_calO_ret, e_calO_exc, e_callP, e_cpK, e_cpD, e_cpC_s, e_cpC_x, e_cpC_o, e_cpS, e_cpX, e_gnil, e_gv, e_gvK1, e_gvK2, e_gs, e_gsB, e_gsK, e_go, e_goK, e_ads_nil, e_ads_cons, e_adC, e_adC2, e_adD_v, e_adD_s, e_adD_o, e_adO, e_pi, e_piK, e_sl, e_slK1, e_slK2, e_slK3, e_slO, e_part_n, e_part_i, d_slice_l, d_slice_t, e_sl3, e_s3K1, e_s3K2, e_s3K3, e_s3K4, e_s3O, e_lc, e_lcK, e_lcB, e_lcR, e_yes, e_okW2, e_okWS_no, e_okWS_sh, eq_self, log_7, List.length_cons, List.length_nil, List.map_cons, List.map_nil, List.cons_append, List.nil_append, List.replicate_succ, List.replicate_zero, List.append_nil, List.getElem?_cons_zero, List.getElem?_cons_succ, List.getElem?_nil, List.set_cons_zero, List.set_cons_succ, Option.bind_some, Option.bind_none, Option.isSome_some, Nat.reduceAdd, Nat.reduceSub, Nat.reduceLT, Nat.reduceLeDiff, Nat.reduceEqDiff, Int.reduceAdd, Int.reduceMul, Int.reduceNeg, Int.reducePow, Int.reduceLT, Int.reduceLE, and_self, and_true, true_and, if_true, if_false, ↓reduceIte, Bool.not_true, Bool.not_false, decide_true, decide_false, decide_eq_true_eq, List.all_cons, List.all_nil, Bool.and_true, Bool.true_and, Bool.and_self, wipeE, adPl, Int.reduceToNat, rng_5, abs_10]) <;> rfl, by
      simp only [e_iEn, e_iEnK, e_enD, e_iZq, e_iZqK, e_zq_ll, e_zq_tt, e_zq_lt, e_zq_tl, e_asgT, e_asgTK, e_asgO, e_call0, List.reverse_cons, List.reverse_nil, e_cmpV, e_cvH, e_cvB, e_cvO, e_cvZ, e_join, e_jK1, e_jK2, e_len_s, e_whK_f, e_whK_t, e_whS, restE, List.getD_cons_zero, List.getD_cons_succ, List.getD_nil, d_pow_6, d_pow_12, d_pow_18, d_pow_30, e_OE_bind_ok, e_OE_bind_exc, e_OE_bindT_ok, e_OE_bindT_exc, e_OE_bindA_ok, e_OE_bindA_exc, e_OE_bindS_ok, e_OE_bindS_exc, e_OE_bindI_ok, e_OE_bindI_exc, e_OE_bindG_ok, e_OE_bindG_exc, e_OT_bind_ok, e_OT_bind_exc, e_OT_bindE_ok, e_OT_bindE_exc, e_OT_bindS_ok, e_OT_bindS_exc, e_OA_bind_ok, e_OA_bind_exc, e_OA_bindE_ok, e_OA_bindE_exc, e_OA_bindI_ok, e_OA_bindI_exc, e_OI_bindE_ok, e_OI_bindE_exc, e_OI_bindS_ok, e_OI_bindS_exc, e_OG_bind_ok, e_OG_bind_exc, e_OG_bindE_ok, e_OG_bindE_exc, e_seq_nx, e_seq_ret, e_seq_brk, e_seq_cnt, e_seq_exc, e_var, e_varK_sh, e_varK_ow, e_mv, e_mvK_sh, e_mvK_ow, e_c, e_okO, e_op2, e_opK1, e_opK2, e_un, e_unK, e_and, e_or, e_not, e_tru, e_andK_t, e_andK_f, e_orK_t, e_orK_f, e_notK, e_truK, e_if, e_tand, e_tor, e_tnot, e_sif, e_ifK_t, e_ifK_f, e_sifK_t, e_sifK_f, e_tandK_t, e_tandK_f, e_torK_t, e_torK_f, e_tnotK, e_nil, e_cons, e_consK1, e_consK2, e_tup, e_lst, e_cb, e_tupK, e_lstK, e_cbK, e_chain, e_chK1, e_chK2, e_chK3, e_chB_t, e_chB_f, e_ixV, e_ixH, e_ixVK, e_ixE_own, e_ixE_sh, e_atO, e_ownAt, e_ownS_ow, e_ownS_io, e_ownS_lst, e_ownS_tup, e_ownS_str, e_ownS_int, e_lenV, e_lenK_own, e_lenK_sh, e_here_no, e_noIo_no, e_Own_no, e_here_sh, e_noIo_sh, e_Own_sh, e_here_ow, e_noIo_ow, e_Own_ow, e_here_io, e_noIo_io, e_Own_io, e_fz_sh, e_fz_ow, e_sv_sh, e_sv_ow, e_ret, e_retK, e_retN, e_expr, e_exprK, e_pass, e_break, e_cont, e_asg, e_asgK, e_asgB, e_sseq, e_set, e_setK1, e_setB, e_setK2, e_setO, e_setJ, e_nxO, e_setOwn, e_soK_ow, e_soK_io, e_app, e_appB, e_appK, e_appO, e_par, e_parA, e_parK, e_okI, e_iVal, e_iValK, e_items_lst, e_items_tup, e_items_str, e_iZp, e_iZpK, e_zp_l, e_zp_t, e_iRv, e_iRvK, e_rv_l, e_rv_t, e_iRg1, e_iRg1K, e_rg1, e_iRg2, e_iRg2K, e_rg2, e_for, e_forK, e_for_nil, e_for_cons, e_forG, e_forS_nx, e_forS_cnt, e_forS_brk, e_forS_ret, e_forS_exc, e_gVar, e_gvB, e_gTup, e_gTupW, e_gCons, e_gNil, d_add_i, d_add_s, d_add_l, d_add_t, d_mul_i, d_mul_s, d_mul_l, d_fdiv, d_mod, d_pow, d_neg, d_iI, d_ord_i, d_ord_s, d_eq_i, d_eq_s, d_ne_i, d_ne_s, d_len_l, d_len_t, d_abs, d_gcd, d_max2, d_min2, d_tup_l, d_tup_t, d_ix_l, d_ix_t, d_atR, at_0, at_1, at_2, ixn_0, ixn_1, ixn_2, e_run, e_fin_ret, e_fin_nx, e_fin_exc, e_outR, e_outX, e_out_none, e_out_some, e_ioS, e_arg_none, e_arg_nil, e_arg_0, e_arg_s, e_ioD, e_call, e_calK1, e_calK2, e_calO_ret, e_calO_exc, e_callP, e_cpK, e_cpD, e_cpC_s, e_cpC_x, e_cpC_o, e_cpS, e_cpX, e_gnil, e_gv, e_gvK1, e_gvK2, e_gs, e_gsB, e_gsK, e_go, e_goK, e_ads_nil, e_ads_cons, e_adC, e_adC2, e_adD_v, e_adD_s, e_adD_o, e_adO, e_pi, e_piK, e_sl, e_slK1, e_slK2, e_slK3, e_slO, e_part_n, e_part_i, d_slice_l, d_slice_t, e_sl3, e_s3K1, e_s3K2, e_s3K3, e_s3K4, e_s3O, e_lc, e_lcK, e_lcB, e_lcR, e_yes, e_okW2, e_okWS_no, e_okWS_sh, eq_self, log_7, List.length_cons, List.length_nil, List.map_cons, List.map_nil, List.cons_append, List.nil_append, List.replicate_succ, List.replicate_zero, List.append_nil, List.getElem?_cons_zero, List.getElem?_cons_succ, List.getElem?_nil, List.set_cons_zero, List.set_cons_succ, Option.bind_some, Option.bind_none, Option.isSome_some, Nat.reduceAdd, Nat.reduceSub, Nat.reduceLT, Nat.reduceLeDiff, Nat.reduceEqDiff, Int.reduceAdd, Int.reduceMul, Int.reduceNeg, Int.reducePow, Int.reduceLT, Int.reduceLE, and_self, and_true, true_and, if_true, if_false, ↓reduceIte, Bool.not_true, Bool.not_false, decide_true, decide_false, decide_eq_true_eq, List.all_cons, List.all_nil, Bool.and_true, Bool.true_and, Bool.and_self, wipeE, adPl, Int.reduceToNat, rng_5, abs_10, ef]
      rw [if_pos (mul_ok (by omega) (by omega) (by omega) (by omega))]
      simp only [e_iEn, e_iEnK, e_enD, e_iZq, e_iZqK, e_zq_ll, e_zq_tt, e_zq_lt, e_zq_tl, e_asgT, e_asgTK, e_asgO, e_call0, List.reverse_cons, List.reverse_nil, e_cmpV, e_cvH, e_cvB, e_cvO, e_cvZ, e_join, e_jK1, e_jK2, e_len_s, e_whK_f, e_whK_t, e_whS, restE, List.getD_cons_zero, List.getD_cons_succ, List.getD_nil, d_pow_6, d_pow_12, d_pow_18, d_pow_30, e_OE_bind_ok, e_OE_bind_exc, e_OE_bindT_ok, e_OE_bindT_exc, e_OE_bindA_ok, e_OE_bindA_exc, e_OE_bindS_ok, e_OE_bindS_exc, e_OE_bindI_ok, e_OE_bindI_exc, e_OE_bindG_ok, e_OE_bindG_exc, e_OT_bind_ok, e_OT_bind_exc, e_OT_bindE_ok, e_OT_bindE_exc, e_OT_bindS_ok, e_OT_bindS_exc, e_OA_bind_ok, e_OA_bind_exc, e_OA_bindE_ok, e_OA_bindE_exc, e_OA_bindI_ok, e_OA_bindI_exc, e_OI_bindE_ok, e_OI_bindE_exc, e_OI_bindS_ok, e_OI_bindS_exc, e_OG_bind_ok, e_OG_bind_exc, e_OG_bindE_ok, e_OG_bindE_exc, e_seq_nx, e_seq_ret, e_seq_brk, e_seq_cnt, e_seq_exc, e_var, e_varK_sh, e_varK_ow, e_mv, e_mvK_sh, e_mvK_ow, e_c, e_okO, e_op2, e_opK1, e_opK2, e_un, e_unK, e_and, e_or, e_not, e_tru, e_andK_t, e_andK_f, e_orK_t, e_orK_f, e_notK, e_truK, e_if, e_tand, e_tor, e_tnot, e_sif, e_ifK_t, e_ifK_f, e_sifK_t, e_sifK_f, e_tandK_t, e_tandK_f, e_torK_t, e_torK_f, e_tnotK, e_nil, e_cons, e_consK1, e_consK2, e_tup, e_lst, e_cb, e_tupK, e_lstK, e_cbK, e_chain, e_chK1, e_chK2, e_chK3, e_chB_t, e_chB_f, e_ixV, e_ixH, e_ixVK, e_ixE_own, e_ixE_sh, e_atO, e_ownAt, e_ownS_ow, e_ownS_io, e_ownS_lst, e_ownS_tup, e_ownS_str, e_ownS_int, e_lenV, e_lenK_own, e_lenK_sh, e_here_no, e_noIo_no, e_Own_no, e_here_sh, e_noIo_sh, e_Own_sh, e_here_ow, e_noIo_ow, e_Own_ow, e_here_io, e_noIo_io, e_Own_io, e_fz_sh, e_fz_ow, e_sv_sh, e_sv_ow, e_ret, e_retK, e_retN, e_expr, e_exprK, e_pass, e_break, e_cont, e_asg, e_asgK, e_asgB, e_sseq, e_set, e_setK1, e_setB, e_setK2, e_setO, e_setJ, e_nxO, e_setOwn, e_soK_ow, e_soK_io, e_app, e_appB, e_appK, e_appO, e_par, e_parA, e_parK, e_okI, e_iVal, e_iValK, e_items_lst, e_items_tup, e_items_str, e_iZp, e_iZpK, e_zp_l, e_zp_t, e_iRv, e_iRvK, e_rv_l, e_rv_t, e_iRg1, e_iRg1K, e_rg1, e_iRg2, e_iRg2K, e_rg2, e_for, e_forK, e_for_nil, e_for_cons, e_forG, e_forS_nx, e_forS_cnt, e_forS_brk, e_forS_ret, e_forS_exc, e_gVar, e_gvB, e_gTup, e_gTupW, e_gCons, e_gNil, d_add_i, d_add_s, d_add_l, d_add_t, d_mul_i, d_mul_s, d_mul_l, d_fdiv, d_mod, d_pow, d_neg, d_iI, d_ord_i, d_ord_s, d_eq_i, d_eq_s, d_ne_i, d_ne_s, d_len_l, d_len_t, d_abs, d_gcd, d_max2, d_min2, d_tup_l, d_tup_t, d_ix_l, d_ix_t, d_atR, at_0, at_1, at_2, ixn_0, ixn_1, ixn_2, e_run, e_fin_ret, e_fin_nx, e_fin_exc, e_outR, e_outX, e_out_none, e_out_some, e_ioS, e_arg_none, e_arg_nil, e_arg_0, e_arg_s, e_ioD, e_call, e_calK1, e_calK2, e_calO_ret, e_calO_exc, e_callP, e_cpK, e_cpD, e_cpC_s, e_cpC_x, e_cpC_o, e_cpS, e_cpX, e_gnil, e_gv, e_gvK1, e_gvK2, e_gs, e_gsB, e_gsK, e_go, e_goK, e_ads_nil, e_ads_cons, e_adC, e_adC2, e_adD_v, e_adD_s, e_adD_o, e_adO, e_pi, e_piK, e_sl, e_slK1, e_slK2, e_slK3, e_slO, e_part_n, e_part_i, d_slice_l, d_slice_t, e_sl3, e_s3K1, e_s3K2, e_s3K3, e_s3K4, e_s3O, e_lc, e_lcK, e_lcB, e_lcR, e_yes, e_okW2, e_okWS_no, e_okWS_sh, eq_self, log_7, List.length_cons, List.length_nil, List.map_cons, List.map_nil, List.cons_append, List.nil_append, List.replicate_succ, List.replicate_zero, List.append_nil, List.getElem?_cons_zero, List.getElem?_cons_succ, List.getElem?_nil, List.set_cons_zero, List.set_cons_succ, Option.bind_some, Option.bind_none, Option.isSome_some, Nat.reduceAdd, Nat.reduceSub, Nat.reduceLT, Nat.reduceLeDiff, Nat.reduceEqDiff, Int.reduceAdd, Int.reduceMul, Int.reduceNeg, Int.reducePow, Int.reduceLT, Int.reduceLE, and_self, and_true, true_and, if_true, if_false, ↓reduceIte, Bool.not_true, Bool.not_false, decide_true, decide_false, decide_eq_true_eq, List.all_cons, List.all_nil, Bool.and_true, Bool.true_and, Bool.and_self, wipeE, adPl, Int.reduceToNat, rng_5, abs_10] <;> rfl, by (simp only [e_iEn, e_iEnK, e_enD, e_iZq, e_iZqK, e_zq_ll, e_zq_tt, e_zq_lt, e_zq_tl, e_asgT, e_asgTK, e_asgO, e_call0, List.reverse_cons, List.reverse_nil, e_cmpV, e_cvH, e_cvB, e_cvO, e_cvZ, e_join, e_jK1, e_jK2, e_len_s, e_whK_f, e_whK_t, e_whS, restE, List.getD_cons_zero, List.getD_cons_succ, List.getD_nil, d_pow_6, d_pow_12, d_pow_18, d_pow_30, e_OE_bind_ok, e_OE_bind_exc, e_OE_bindT_ok, e_OE_bindT_exc, e_OE_bindA_ok, e_OE_bindA_exc, e_OE_bindS_ok, e_OE_bindS_exc, e_OE_bindI_ok, e_OE_bindI_exc, e_OE_bindG_ok, e_OE_bindG_exc, e_OT_bind_ok, e_OT_bind_exc, e_OT_bindE_ok, e_OT_bindE_exc, e_OT_bindS_ok, e_OT_bindS_exc, e_OA_bind_ok, e_OA_bind_exc, e_OA_bindE_ok, e_OA_bindE_exc, e_OA_bindI_ok, e_OA_bindI_exc, e_OI_bindE_ok, e_OI_bindE_exc, e_OI_bindS_ok, e_OI_bindS_exc, e_OG_bind_ok, e_OG_bind_exc, e_OG_bindE_ok, e_OG_bindE_exc, e_seq_nx, e_seq_ret, e_seq_brk, e_seq_cnt, e_seq_exc, e_var, e_varK_sh, e_varK_ow, e_mv, e_mvK_sh, e_mvK_ow, e_c, e_okO, e_op2, e_opK1, e_opK2, e_un, e_unK, e_and, e_or, e_not, e_tru, e_andK_t, e_andK_f, e_orK_t, e_orK_f, e_notK, e_truK, e_if, e_tand, e_tor, e_tnot, e_sif, e_ifK_t, e_ifK_f, e_sifK_t, e_sifK_f, e_tandK_t, e_tandK_f, e_torK_t, e_torK_f, e_tnotK, e_nil, e_cons, e_consK1, e_consK2, e_tup, e_lst, e_cb, e_tupK, e_lstK, e_cbK, e_chain, e_chK1, e_chK2, e_chK3, e_chB_t, e_chB_f, e_ixV, e_ixH, e_ixVK, e_ixE_own, e_ixE_sh, e_atO, e_ownAt, e_ownS_ow, e_ownS_io, e_ownS_lst, e_ownS_tup, e_ownS_str, e_ownS_int, e_lenV, e_lenK_own, e_lenK_sh, e_here_no, e_noIo_no, e_Own_no, e_here_sh, e_noIo_sh, e_Own_sh, e_here_ow, e_noIo_ow, e_Own_ow, e_here_io, e_noIo_io, e_Own_io, e_fz_sh, e_fz_ow, e_sv_sh, e_sv_ow, e_ret, e_retK, e_retN, e_expr, e_exprK, e_pass, e_break, e_cont, e_asg, e_asgK, e_asgB, e_sseq, e_set, e_setK1, e_setB, e_setK2, e_setO, e_setJ, e_nxO, e_setOwn, e_soK_ow, e_soK_io, e_app, e_appB, e_appK, e_appO, e_par, e_parA, e_parK, e_okI, e_iVal, e_iValK, e_items_lst, e_items_tup, e_items_str, e_iZp, e_iZpK, e_zp_l, e_zp_t, e_iRv, e_iRvK, e_rv_l, e_rv_t, e_iRg1, e_iRg1K, e_rg1, e_iRg2, e_iRg2K, e_rg2, e_for, e_forK, e_for_nil, e_for_cons, e_forG, e_forS_nx, e_forS_cnt, e_forS_brk, e_forS_ret, e_forS_exc, e_gVar, e_gvB, e_gTup, e_gTupW, e_gCons, e_gNil, d_add_i, d_add_s, d_add_l, d_add_t, d_mul_i, d_mul_s, d_mul_l, d_fdiv, d_mod, d_pow, d_neg, d_iI, d_ord_i, d_ord_s, d_eq_i, d_eq_s, d_ne_i, d_ne_s, d_len_l, d_len_t, d_abs, d_gcd, d_max2, d_min2, d_tup_l, d_tup_t, d_ix_l, d_ix_t, d_atR, at_0, at_1, at_2, ixn_0, ixn_1, ixn_2, e_run, e_fin_ret, e_fin_nx, e_fin_exc, e_outR, e_outX, e_out_none, e_out_some, e_ioS, e_arg_none, e_arg_nil, e_arg_0, e_arg_s, e_ioD, e_call, e_calK1, e_calK2, e_calO_ret, e_calO_exc, e_callP, e_cpK, e_cpD, e_cpC_s, e_cpC_x, e_cpC_o, e_cpS, e_cpX, e_gnil, e_gv, e_gvK1, e_gvK2, e_gs, e_gsB, e_gsK, e_go, e_goK, e_ads_nil, e_ads_cons, e_adC, e_adC2, e_adD_v, e_adD_s, e_adD_o, e_adO, e_pi, e_piK, e_sl, e_slK1, e_slK2, e_slK3, e_slO, e_part_n, e_part_i, d_slice_l, d_slice_t, e_sl3, e_s3K1, e_s3K2, e_s3K3, e_s3K4, e_s3O, e_lc, e_lcK, e_lcB, e_lcR, e_yes, e_okW2, e_okWS_no, e_okWS_sh, eq_self, log_7, List.length_cons, List.length_nil, List.map_cons, List.map_nil, List.cons_append, List.nil_append, List.replicate_succ, List.replicate_zero, List.append_nil, List.getElem?_cons_zero, List.getElem?_cons_succ, List.getElem?_nil, List.set_cons_zero, List.set_cons_succ, Option.bind_some, Option.bind_none, Option.isSome_some, Nat.reduceAdd, Nat.reduceSub, Nat.reduceLT, Nat.reduceLeDiff, Nat.reduceEqDiff, Int.reduceAdd, Int.reduceMul, Int.reduceNeg, Int.reducePow, Int.reduceLT, Int.reduceLE, and_self, and_true, true_and, if_true, if_false, ↓reduceIte, Bool.not_true, Bool.not_false, decide_true, decide_false, decide_eq_true_eq, List.all_cons, List.all_nil, Bool.and_true, Bool.true_and, Bool.and_self, wipeE, adPl, Int.reduceToNat, rng_5, abs_10]), ⟨pf, hf.mono (by omega), by (simp only [e_iEn, e_iEnK, e_enD, e_iZq, e_iZqK, e_zq_ll, e_zq_tt, e_zq_lt, e_zq_tl, e_asgT, e_asgTK, e_asgO, e_call0, List.reverse_cons, List.reverse_nil, e_cmpV, e_cvH, e_cvB, e_cvO, e_cvZ, e_join, e_jK1, e_jK2, e_len_s, e_whK_f, e_whK_t, e_whS, restE, List.getD_cons_zero, List.getD_cons_succ, List.getD_nil, d_pow_6, d_pow_12, d_pow_18, d_pow_30, e_OE_bind_ok, e_OE_bind_exc, e_OE_bindT_ok, e_OE_bindT_exc, e_OE_bindA_ok, e_OE_bindA_exc, e_OE_bindS_ok, e_OE_bindS_exc, e_OE_bindI_ok, e_OE_bindI_exc, e_OE_bindG_ok, e_OE_bindG_exc, e_OT_bind_ok, e_OT_bind_exc, e_OT_bindE_ok, e_OT_bindE_exc, e_OT_bindS_ok, e_OT_bindS_exc, e_OA_bind_ok, e_OA_bind_exc, e_OA_bindE_ok, e_OA_bindE_exc, e_OA_bindI_ok, e_OA_bindI_exc, e_OI_bindE_ok, e_OI_bindE_exc, e_OI_bindS_ok, e_OI_bindS_exc, e_OG_bind_ok, e_OG_bind_exc, e_OG_bindE_ok, e_OG_bindE_exc, e_seq_nx, e_seq_ret, e_seq_brk, e_seq_cnt, e_seq_exc, e_var, e_varK_sh, e_varK_ow, e_mv, e_mvK_sh, e_mvK_ow, e_c, e_okO, e_op2, e_opK1, e_opK2, e_un, e_unK, e_and, e_or, e_not, e_tru, e_andK_t, e_andK_f, e_orK_t, e_orK_f, e_notK, e_truK, e_if, e_tand, e_tor, e_tnot, e_sif, e_ifK_t, e_ifK_f, e_sifK_t, e_sifK_f, e_tandK_t, e_tandK_f, e_torK_t, e_torK_f, e_tnotK, e_nil, e_cons, e_consK1, e_consK2, e_tup, e_lst, e_cb, e_tupK, e_lstK, e_cbK, e_chain, e_chK1, e_chK2, e_chK3, e_chB_t, e_chB_f, e_ixV, e_ixH, e_ixVK, e_ixE_own, e_ixE_sh, e_atO, e_ownAt, e_ownS_ow, e_ownS_io, e_ownS_lst, e_ownS_tup, e_ownS_str, e_ownS_int, e_lenV, e_lenK_own, e_lenK_sh, e_here_no, e_noIo_no, e_Own_no, e_here_sh, e_noIo_sh, e_Own_sh, e_here_ow, e_noIo_ow, e_Own_ow, e_here_io, e_noIo_io, e_Own_io, e_fz_sh, e_fz_ow, e_sv_sh, e_sv_ow, e_ret, e_retK, e_retN, e_expr, e_exprK, e_pass, e_break, e_cont, e_asg, e_asgK, e_asgB, e_sseq, e_set, e_setK1, e_setB, e_setK2, e_setO, e_setJ, e_nxO, e_setOwn, e_soK_ow, e_soK_io, e_app, e_appB, e_appK, e_appO, e_par, e_parA, e_parK, e_okI, e_iVal, e_iValK, e_items_lst, e_items_tup, e_items_str, e_iZp, e_iZpK, e_zp_l, e_zp_t, e_iRv, e_iRvK, e_rv_l, e_rv_t, e_iRg1, e_iRg1K, e_rg1, e_iRg2, e_iRg2K, e_rg2, e_for, e_forK, e_for_nil, e_for_cons, e_forG, e_forS_nx, e_forS_cnt, e_forS_brk, e_forS_ret, e_forS_exc, e_gVar, e_gvB, e_gTup, e_gTupW, e_gCons, e_gNil, d_add_i, d_add_s, d_add_l, d_add_t, d_mul_i, d_mul_s, d_mul_l, d_fdiv, d_mod, d_pow, d_neg, d_iI, d_ord_i, d_ord_s, d_eq_i, d_eq_s, d_ne_i, d_ne_s, d_len_l, d_len_t, d_abs, d_gcd, d_max2, d_min2, d_tup_l, d_tup_t, d_ix_l, d_ix_t, d_atR, at_0, at_1, at_2, ixn_0, ixn_1, ixn_2, e_run, e_fin_ret, e_fin_nx, e_fin_exc, e_outR, e_outX, e_out_none, e_out_some, e_ioS, e_arg_none, e_arg_nil, e_arg_0, e_arg_s, e_ioD, e_call, e_calK1, e_calK2, e_calO_ret, e_calO_exc, e_callP, e_cpK, e_cpD, e_cpC_s, e_cpC_x, e_cpC_o, e_cpS, e_cpX, e_gnil, e_gv, e_gvK1, e_gvK2, e_gs, e_gsB, e_gsK, e_go, e_goK, e_ads_nil, e_ads_cons, e_adC, e_adC2, e_adD_v, e_adD_s, e_adD_o, e_adO, e_pi, e_piK, e_sl, e_slK1, e_slK2, e_slK3, e_slO, e_part_n, e_part_i, d_slice_l, d_slice_t, e_sl3, e_s3K1, e_s3K2, e_s3K3, e_s3K4, e_s3O, e_lc, e_lcK, e_lcB, e_lcR, e_yes, e_okW2, e_okWS_no, e_okWS_sh, eq_self, log_7, List.length_cons, List.length_nil, List.map_cons, List.map_nil, List.cons_append, List.nil_append, List.replicate_succ, List.replicate_zero, List.append_nil, List.getElem?_cons_zero, List.getElem?_cons_succ, List.getElem?_nil, List.set_cons_zero, List.set_cons_succ, Option.bind_some, Option.bind_none, Option.isSome_some, Nat.reduceAdd, Nat.reduceSub, Nat.reduceLT, Nat.reduceLeDiff, Nat.reduceEqDiff, Int.reduceAdd, Int.reduceMul, Int.reduceNeg, Int.reducePow, Int.reduceLT, Int.reduceLE, and_self, and_true, true_and, if_true, if_false, ↓reduceIte, Bool.not_true, Bool.not_false, decide_true, decide_false, decide_eq_true_eq, List.all_cons, List.all_nil, Bool.and_true, Bool.true_and, Bool.and_self, wipeE, adPl, Int.reduceToNat, rng_5, abs_10])⟩, ⟨b * f, rfl, by omega, by omega⟩⟩)
  obtain ⟨ns, rfl, hns⟩ := l3.intsP (fun _ _ h => h)
  have hcnt : ns.length = cnt.toNat := by
    have := l3.length
    rw [rng_len, len_ints] at this
    exact this
  rw [rng_len] at h6
  obtain ⟨c, p7, e7, a7, b7, h7⟩ := number_p h6 (by omega)
  obtain ⟨s5, o5, i5, f5⟩ := due_for (.io p7) (.sh (.int b)) (.sh (.lst (intsL ns))) (.sh (.int c)) ns 0 .no (fun y hy => by have := hns y hy; omega) rfl rfl
  rw [show ((0 : Nat) : Int) = 0 from rfl] at f5
  obtain ⟨v8, p8, e8, a8, b8, h8⟩ := take_p h7 (m := 3) (by omega) (by omega) (by omega)
  simp only [f__law_right, F__law_right, e_iEn, e_iEnK, e_enD, e_iZq, e_iZqK, e_zq_ll, e_zq_tt, e_zq_lt, e_zq_tl, e_asgT, e_asgTK, e_asgO, e_call0, List.reverse_cons, List.reverse_nil, e_cmpV, e_cvH, e_cvB, e_cvO, e_cvZ, e_join, e_jK1, e_jK2, e_len_s, e_whK_f, e_whK_t, e_whS, restE, List.getD_cons_zero, List.getD_cons_succ, List.getD_nil, d_pow_6, d_pow_12, d_pow_18, d_pow_30, e_OE_bind_ok, e_OE_bind_exc, e_OE_bindT_ok, e_OE_bindT_exc, e_OE_bindA_ok, e_OE_bindA_exc, e_OE_bindS_ok, e_OE_bindS_exc, e_OE_bindI_ok, e_OE_bindI_exc, e_OE_bindG_ok, e_OE_bindG_exc, e_OT_bind_ok, e_OT_bind_exc, e_OT_bindE_ok, e_OT_bindE_exc, e_OT_bindS_ok, e_OT_bindS_exc, e_OA_bind_ok, e_OA_bind_exc, e_OA_bindE_ok, e_OA_bindE_exc, e_OA_bindI_ok, e_OA_bindI_exc, e_OI_bindE_ok, e_OI_bindE_exc, e_OI_bindS_ok, e_OI_bindS_exc, e_OG_bind_ok, e_OG_bind_exc, e_OG_bindE_ok, e_OG_bindE_exc, e_seq_nx, e_seq_ret, e_seq_brk, e_seq_cnt, e_seq_exc, e_var, e_varK_sh, e_varK_ow, e_mv, e_mvK_sh, e_mvK_ow, e_c, e_okO, e_op2, e_opK1, e_opK2, e_un, e_unK, e_and, e_or, e_not, e_tru, e_andK_t, e_andK_f, e_orK_t, e_orK_f, e_notK, e_truK, e_if, e_tand, e_tor, e_tnot, e_sif, e_ifK_t, e_ifK_f, e_sifK_t, e_sifK_f, e_tandK_t, e_tandK_f, e_torK_t, e_torK_f, e_tnotK, e_nil, e_cons, e_consK1, e_consK2, e_tup, e_lst, e_cb, e_tupK, e_lstK, e_cbK, e_chain, e_chK1, e_chK2, e_chK3, e_chB_t, e_chB_f, e_ixV, e_ixH, e_ixVK, e_ixE_own, e_ixE_sh, e_atO, e_ownAt, e_ownS_ow, e_ownS_io, e_ownS_lst, e_ownS_tup, e_ownS_str, e_ownS_int, e_lenV, e_lenK_own, e_lenK_sh, e_here_no, e_noIo_no, e_Own_no, e_here_sh, e_noIo_sh, e_Own_sh, e_here_ow, e_noIo_ow, e_Own_ow, e_here_io, e_noIo_io, e_Own_io, e_fz_sh, e_fz_ow, e_sv_sh, e_sv_ow, e_ret, e_retK, e_retN, e_expr, e_exprK, e_pass, e_break, e_cont, e_asg, e_asgK, e_asgB, e_sseq, e_set, e_setK1, e_setB, e_setK2, e_setO, e_setJ, e_nxO, e_setOwn, e_soK_ow, e_soK_io, e_app, e_appB, e_appK, e_appO, e_par, e_parA, e_parK, e_okI, e_iVal, e_iValK, e_items_lst, e_items_tup, e_items_str, e_iZp, e_iZpK, e_zp_l, e_zp_t, e_iRv, e_iRvK, e_rv_l, e_rv_t, e_iRg1, e_iRg1K, e_rg1, e_iRg2, e_iRg2K, e_rg2, e_for, e_forK, e_for_nil, e_for_cons, e_forG, e_forS_nx, e_forS_cnt, e_forS_brk, e_forS_ret, e_forS_exc, e_gVar, e_gvB, e_gTup, e_gTupW, e_gCons, e_gNil, d_add_i, d_add_s, d_add_l, d_add_t, d_mul_i, d_mul_s, d_mul_l, d_fdiv, d_mod, d_pow, d_neg, d_iI, d_ord_i, d_ord_s, d_eq_i, d_eq_s, d_ne_i, d_ne_s, d_len_l, d_len_t, d_abs, d_gcd, d_max2, d_min2, d_tup_l, d_tup_t, d_ix_l, d_ix_t, d_atR, at_0, at_1, at_2, ixn_0, ixn_1, ixn_2, e_run, e_fin_ret, e_fin_nx, e_fin_exc, e_outR, e_outX, e_out_none, e_out_some, e_ioS, e_arg_none, e_arg_nil, e_arg_0, e_arg_s, e_ioD, e_call, e_calK1, e_calK2, e_calO_ret, e_calO_exc, e_callP, e_cpK, e_cpD, e_cpC_s, e_cpC_x, e_cpC_o, e_cpS, e_cpX, e_gnil, e_gv, e_gvK1, e_gvK2, e_gs, e_gsB, e_gsK, e_go, e_goK, e_ads_nil, e_ads_cons, e_adC, e_adC2, e_adD_v, e_adD_s, e_adD_o, e_adO, e_pi, e_piK, e_sl, e_slK1, e_slK2, e_slK3, e_slO, e_part_n, e_part_i, d_slice_l, d_slice_t, e_sl3, e_s3K1, e_s3K2, e_s3K3, e_s3K4, e_s3O, e_lc, e_lcK, e_lcB, e_lcR, e_yes, e_okW2, e_okWS_no, e_okWS_sh, eq_self, log_7, List.length_cons, List.length_nil, List.map_cons, List.map_nil, List.cons_append, List.nil_append, List.replicate_succ, List.replicate_zero, List.append_nil, List.getElem?_cons_zero, List.getElem?_cons_succ, List.getElem?_nil, List.set_cons_zero, List.set_cons_succ, Option.bind_some, Option.bind_none, Option.isSome_some, Nat.reduceAdd, Nat.reduceSub, Nat.reduceLT, Nat.reduceLeDiff, Nat.reduceEqDiff, Int.reduceAdd, Int.reduceMul, Int.reduceNeg, Int.reducePow, Int.reduceLT, Int.reduceLE, and_self, and_true, true_and, if_true, if_false, ↓reduceIte, Bool.not_true, Bool.not_false, decide_true, decide_false, decide_eq_true_eq, List.all_cons, List.all_nil, Bool.and_true, Bool.true_and, Bool.and_self, wipeE, adPl, Int.reduceToNat, rng_5, abs_10, e1, e2, e3, ib, e4, iq, e5]
  rw [if_pos (by omega)]
  simp only [e_iEn, e_iEnK, e_enD, e_iZq, e_iZqK, e_zq_ll, e_zq_tt, e_zq_lt, e_zq_tl, e_asgT, e_asgTK, e_asgO, e_call0, List.reverse_cons, List.reverse_nil, e_cmpV, e_cvH, e_cvB, e_cvO, e_cvZ, e_join, e_jK1, e_jK2, e_len_s, e_whK_f, e_whK_t, e_whS, restE, List.getD_cons_zero, List.getD_cons_succ, List.getD_nil, d_pow_6, d_pow_12, d_pow_18, d_pow_30, e_OE_bind_ok, e_OE_bind_exc, e_OE_bindT_ok, e_OE_bindT_exc, e_OE_bindA_ok, e_OE_bindA_exc, e_OE_bindS_ok, e_OE_bindS_exc, e_OE_bindI_ok, e_OE_bindI_exc, e_OE_bindG_ok, e_OE_bindG_exc, e_OT_bind_ok, e_OT_bind_exc, e_OT_bindE_ok, e_OT_bindE_exc, e_OT_bindS_ok, e_OT_bindS_exc, e_OA_bind_ok, e_OA_bind_exc, e_OA_bindE_ok, e_OA_bindE_exc, e_OA_bindI_ok, e_OA_bindI_exc, e_OI_bindE_ok, e_OI_bindE_exc, e_OI_bindS_ok, e_OI_bindS_exc, e_OG_bind_ok, e_OG_bind_exc, e_OG_bindE_ok, e_OG_bindE_exc, e_seq_nx, e_seq_ret, e_seq_brk, e_seq_cnt, e_seq_exc, e_var, e_varK_sh, e_varK_ow, e_mv, e_mvK_sh, e_mvK_ow, e_c, e_okO, e_op2, e_opK1, e_opK2, e_un, e_unK, e_and, e_or, e_not, e_tru, e_andK_t, e_andK_f, e_orK_t, e_orK_f, e_notK, e_truK, e_if, e_tand, e_tor, e_tnot, e_sif, e_ifK_t, e_ifK_f, e_sifK_t, e_sifK_f, e_tandK_t, e_tandK_f, e_torK_t, e_torK_f, e_tnotK, e_nil, e_cons, e_consK1, e_consK2, e_tup, e_lst, e_cb, e_tupK, e_lstK, e_cbK, e_chain, e_chK1, e_chK2, e_chK3, e_chB_t, e_chB_f, e_ixV, e_ixH, e_ixVK, e_ixE_own, e_ixE_sh, e_atO, e_ownAt, e_ownS_ow, e_ownS_io, e_ownS_lst, e_ownS_tup, e_ownS_str, e_ownS_int, e_lenV, e_lenK_own, e_lenK_sh, e_here_no, e_noIo_no, e_Own_no, e_here_sh, e_noIo_sh, e_Own_sh, e_here_ow, e_noIo_ow, e_Own_ow, e_here_io, e_noIo_io, e_Own_io, e_fz_sh, e_fz_ow, e_sv_sh, e_sv_ow, e_ret, e_retK, e_retN, e_expr, e_exprK, e_pass, e_break, e_cont, e_asg, e_asgK, e_asgB, e_sseq, e_set, e_setK1, e_setB, e_setK2, e_setO, e_setJ, e_nxO, e_setOwn, e_soK_ow, e_soK_io, e_app, e_appB, e_appK, e_appO, e_par, e_parA, e_parK, e_okI, e_iVal, e_iValK, e_items_lst, e_items_tup, e_items_str, e_iZp, e_iZpK, e_zp_l, e_zp_t, e_iRv, e_iRvK, e_rv_l, e_rv_t, e_iRg1, e_iRg1K, e_rg1, e_iRg2, e_iRg2K, e_rg2, e_for, e_forK, e_for_nil, e_for_cons, e_forG, e_forS_nx, e_forS_cnt, e_forS_brk, e_forS_ret, e_forS_exc, e_gVar, e_gvB, e_gTup, e_gTupW, e_gCons, e_gNil, d_add_i, d_add_s, d_add_l, d_add_t, d_mul_i, d_mul_s, d_mul_l, d_fdiv, d_mod, d_pow, d_neg, d_iI, d_ord_i, d_ord_s, d_eq_i, d_eq_s, d_ne_i, d_ne_s, d_len_l, d_len_t, d_abs, d_gcd, d_max2, d_min2, d_tup_l, d_tup_t, d_ix_l, d_ix_t, d_atR, at_0, at_1, at_2, ixn_0, ixn_1, ixn_2, e_run, e_fin_ret, e_fin_nx, e_fin_exc, e_outR, e_outX, e_out_none, e_out_some, e_ioS, e_arg_none, e_arg_nil, e_arg_0, e_arg_s, e_ioD, e_call, e_calK1, e_calK2, e_calO_ret, e_calO_exc, e_callP, e_cpK, e_cpD, e_cpC_s, e_cpC_x, e_cpC_o, e_cpS, e_cpX, e_gnil, e_gv, e_gvK1, e_gvK2, e_gs, e_gsB, e_gsK, e_go, e_goK, e_ads_nil, e_ads_cons, e_adC, e_adC2, e_adD_v, e_adD_s, e_adD_o, e_adO, e_pi, e_piK, e_sl, e_slK1, e_slK2, e_slK3, e_slO, e_part_n, e_part_i, d_slice_l, d_slice_t, e_sl3, e_s3K1, e_s3K2, e_s3K3, e_s3K4, e_s3O, e_lc, e_lcK, e_lcB, e_lcR, e_yes, e_okW2, e_okWS_no, e_okWS_sh, eq_self, log_7, List.length_cons, List.length_nil, List.map_cons, List.map_nil, List.cons_append, List.nil_append, List.replicate_succ, List.replicate_zero, List.append_nil, List.getElem?_cons_zero, List.getElem?_cons_succ, List.getElem?_nil, List.set_cons_zero, List.set_cons_succ, Option.bind_some, Option.bind_none, Option.isSome_some, Nat.reduceAdd, Nat.reduceSub, Nat.reduceLT, Nat.reduceLeDiff, Nat.reduceEqDiff, Int.reduceAdd, Int.reduceMul, Int.reduceNeg, Int.reducePow, Int.reduceLT, Int.reduceLE, and_self, and_true, true_and, if_true, if_false, ↓reduceIte, Bool.not_true, Bool.not_false, decide_true, decide_false, decide_eq_true_eq, List.all_cons, List.all_nil, Bool.and_true, Bool.true_and, Bool.and_self, wipeE, adPl, Int.reduceToNat, rng_5, abs_10]
  rw [l1, l2]
  simp only [e_iEn, e_iEnK, e_enD, e_iZq, e_iZqK, e_zq_ll, e_zq_tt, e_zq_lt, e_zq_tl, e_asgT, e_asgTK, e_asgO, e_call0, List.reverse_cons, List.reverse_nil, e_cmpV, e_cvH, e_cvB, e_cvO, e_cvZ, e_join, e_jK1, e_jK2, e_len_s, e_whK_f, e_whK_t, e_whS, restE, List.getD_cons_zero, List.getD_cons_succ, List.getD_nil, d_pow_6, d_pow_12, d_pow_18, d_pow_30, e_OE_bind_ok, e_OE_bind_exc, e_OE_bindT_ok, e_OE_bindT_exc, e_OE_bindA_ok, e_OE_bindA_exc, e_OE_bindS_ok, e_OE_bindS_exc, e_OE_bindI_ok, e_OE_bindI_exc, e_OE_bindG_ok, e_OE_bindG_exc, e_OT_bind_ok, e_OT_bind_exc, e_OT_bindE_ok, e_OT_bindE_exc, e_OT_bindS_ok, e_OT_bindS_exc, e_OA_bind_ok, e_OA_bind_exc, e_OA_bindE_ok, e_OA_bindE_exc, e_OA_bindI_ok, e_OA_bindI_exc, e_OI_bindE_ok, e_OI_bindE_exc, e_OI_bindS_ok, e_OI_bindS_exc, e_OG_bind_ok, e_OG_bind_exc, e_OG_bindE_ok, e_OG_bindE_exc, e_seq_nx, e_seq_ret, e_seq_brk, e_seq_cnt, e_seq_exc, e_var, e_varK_sh, e_varK_ow, e_mv, e_mvK_sh, e_mvK_ow, e_c, e_okO, e_op2, e_opK1, e_opK2, e_un, e_unK, e_and, e_or, e_not, e_tru, e_andK_t, e_andK_f, e_orK_t, e_orK_f, e_notK, e_truK, e_if, e_tand, e_tor, e_tnot, e_sif, e_ifK_t, e_ifK_f, e_sifK_t, e_sifK_f, e_tandK_t, e_tandK_f, e_torK_t, e_torK_f, e_tnotK, e_nil, e_cons, e_consK1, e_consK2, e_tup, e_lst, e_cb, e_tupK, e_lstK, e_cbK, e_chain, e_chK1, e_chK2, e_chK3, e_chB_t, e_chB_f, e_ixV, e_ixH, e_ixVK, e_ixE_own, e_ixE_sh, e_atO, e_ownAt, e_ownS_ow, e_ownS_io, e_ownS_lst, e_ownS_tup, e_ownS_str, e_ownS_int, e_lenV, e_lenK_own, e_lenK_sh, e_here_no, e_noIo_no, e_Own_no, e_here_sh, e_noIo_sh, e_Own_sh, e_here_ow, e_noIo_ow, e_Own_ow, e_here_io, e_noIo_io, e_Own_io, e_fz_sh, e_fz_ow, e_sv_sh, e_sv_ow, e_ret, e_retK, e_retN, e_expr, e_exprK, e_pass, e_break, e_cont, e_asg, e_asgK, e_asgB, e_sseq, e_set, e_setK1, e_setB, e_setK2, e_setO, e_setJ, e_nxO, e_setOwn, e_soK_ow, e_soK_io, e_app, e_appB, e_appK, e_appO, e_par, e_parA, e_parK, e_okI, e_iVal, e_iValK, e_items_lst, e_items_tup, e_items_str, e_iZp, e_iZpK, e_zp_l, e_zp_t, e_iRv, e_iRvK, e_rv_l, e_rv_t, e_iRg1, e_iRg1K, e_rg1, e_iRg2, e_iRg2K, e_rg2, e_for, e_forK, e_for_nil, e_for_cons, e_forG, e_forS_nx, e_forS_cnt, e_forS_brk, e_forS_ret, e_forS_exc, e_gVar, e_gvB, e_gTup, e_gTupW, e_gCons, e_gNil, d_add_i, d_add_s, d_add_l, d_add_t, d_mul_i, d_mul_s, d_mul_l, d_fdiv, d_mod, d_pow, d_neg, d_iI, d_ord_i, d_ord_s, d_eq_i, d_eq_s, d_ne_i, d_ne_s, d_len_l, d_len_t, d_abs, d_gcd, d_max2, d_min2, d_tup_l, d_tup_t, d_ix_l, d_ix_t, d_atR, at_0, at_1, at_2, ixn_0, ixn_1, ixn_2, e_run, e_fin_ret, e_fin_nx, e_fin_exc, e_outR, e_outX, e_out_none, e_out_some, e_ioS, e_arg_none, e_arg_nil, e_arg_0, e_arg_s, e_ioD, e_call, e_calK1, e_calK2, e_calO_ret, e_calO_exc, e_callP, e_cpK, e_cpD, e_cpC_s, e_cpC_x, e_cpC_o, e_cpS, e_cpX, e_gnil, e_gv, e_gvK1, e_gvK2, e_gs, e_gsB, e_gsK, e_go, e_goK, e_ads_nil, e_ads_cons, e_adC, e_adC2, e_adD_v, e_adD_s, e_adD_o, e_adO, e_pi, e_piK, e_sl, e_slK1, e_slK2, e_slK3, e_slO, e_part_n, e_part_i, d_slice_l, d_slice_t, e_sl3, e_s3K1, e_s3K2, e_s3K3, e_s3K4, e_s3O, e_lc, e_lcK, e_lcB, e_lcR, e_yes, e_okW2, e_okWS_no, e_okWS_sh, eq_self, log_7, List.length_cons, List.length_nil, List.map_cons, List.map_nil, List.cons_append, List.nil_append, List.replicate_succ, List.replicate_zero, List.append_nil, List.getElem?_cons_zero, List.getElem?_cons_succ, List.getElem?_nil, List.set_cons_zero, List.set_cons_succ, Option.bind_some, Option.bind_none, Option.isSome_some, Nat.reduceAdd, Nat.reduceSub, Nat.reduceLT, Nat.reduceLeDiff, Nat.reduceEqDiff, Int.reduceAdd, Int.reduceMul, Int.reduceNeg, Int.reducePow, Int.reduceLT, Int.reduceLE, and_self, and_true, true_and, if_true, if_false, ↓reduceIte, Bool.not_true, Bool.not_false, decide_true, decide_false, decide_eq_true_eq, List.all_cons, List.all_nil, Bool.and_true, Bool.true_and, Bool.and_self, wipeE, adPl, Int.reduceToNat, rng_5, abs_10, e7, f5]
  generalize hG : gf 0 ns = g at f5
  have hg : (g : Int) ≤ 10 ^ 30 := by
    have := gf_le (ns := ns) (B := 10 ^ 30) fun y hy => by have := hns y hy; omega
    omega
  have ln : ns.length ≤ 20 := by omega
  have cutl : (cutL ns none (some (1 + v8))).length ≤ 20 := by
    unfold cutL
    rw [List.length_take, List.length_drop]
    omega
  have cutm : ∀ y ∈ cutL ns none (some (1 + v8)), y ∈ ns := fun y hy => List.mem_of_mem_drop (List.mem_of_mem_take hy)
  generalize hcl : cutL ns none (some (1 + v8)) = cl at cutl cutm
  -- what divides each
  have g4 : gf 0 (ns ++ cl) = g := by
    rw [← hG]
    refine gf_ext fun k => ⟨fun h y hy => h y (List.mem_append_left _ hy), fun h y hy => ?_⟩
    rcases List.mem_append.mp hy with hy | hy
    · exact h y hy
    · exact h y (cutm y hy)
  have g5 : gf 0 (ns.reverse.map fun i => 0 - i) = g := by
    rw [← hG]
    refine gf_ext fun k => ⟨fun h y hy => ?_, fun h y hy => ?_⟩
    · have := h (0 - y) (List.mem_map.mpr ⟨y, List.mem_reverse.mpr hy, rfl⟩)
      rw [Int.zero_sub, Int.natAbs_neg] at this
      exact this
    · obtain ⟨z, hz, rfl⟩ := List.mem_map.mp hy
      rw [Int.zero_sub, Int.natAbs_neg]
      exact h z (List.mem_reverse.mp hz)
  simp only [e_iEn, e_iEnK, e_enD, e_iZq, e_iZqK, e_zq_ll, e_zq_tt, e_zq_lt, e_zq_tl, e_asgT, e_asgTK, e_asgO, e_call0, List.reverse_cons, List.reverse_nil, e_cmpV, e_cvH, e_cvB, e_cvO, e_cvZ, e_join, e_jK1, e_jK2, e_len_s, e_whK_f, e_whK_t, e_whS, restE, List.getD_cons_zero, List.getD_cons_succ, List.getD_nil, d_pow_6, d_pow_12, d_pow_18, d_pow_30, e_OE_bind_ok, e_OE_bind_exc, e_OE_bindT_ok, e_OE_bindT_exc, e_OE_bindA_ok, e_OE_bindA_exc, e_OE_bindS_ok, e_OE_bindS_exc, e_OE_bindI_ok, e_OE_bindI_exc, e_OE_bindG_ok, e_OE_bindG_exc, e_OT_bind_ok, e_OT_bind_exc, e_OT_bindE_ok, e_OT_bindE_exc, e_OT_bindS_ok, e_OT_bindS_exc, e_OA_bind_ok, e_OA_bind_exc, e_OA_bindE_ok, e_OA_bindE_exc, e_OA_bindI_ok, e_OA_bindI_exc, e_OI_bindE_ok, e_OI_bindE_exc, e_OI_bindS_ok, e_OI_bindS_exc, e_OG_bind_ok, e_OG_bind_exc, e_OG_bindE_ok, e_OG_bindE_exc, e_seq_nx, e_seq_ret, e_seq_brk, e_seq_cnt, e_seq_exc, e_var, e_varK_sh, e_varK_ow, e_mv, e_mvK_sh, e_mvK_ow, e_c, e_okO, e_op2, e_opK1, e_opK2, e_un, e_unK, e_and, e_or, e_not, e_tru, e_andK_t, e_andK_f, e_orK_t, e_orK_f, e_notK, e_truK, e_if, e_tand, e_tor, e_tnot, e_sif, e_ifK_t, e_ifK_f, e_sifK_t, e_sifK_f, e_tandK_t, e_tandK_f, e_torK_t, e_torK_f, e_tnotK, e_nil, e_cons, e_consK1, e_consK2, e_tup, e_lst, e_cb, e_tupK, e_lstK, e_cbK, e_chain, e_chK1, e_chK2, e_chK3, e_chB_t, e_chB_f, e_ixV, e_ixH, e_ixVK, e_ixE_own, e_ixE_sh, e_atO, e_ownAt, e_ownS_ow, e_ownS_io, e_ownS_lst, e_ownS_tup, e_ownS_str, e_ownS_int, e_lenV, e_lenK_own, e_lenK_sh, e_here_no, e_noIo_no, e_Own_no, e_here_sh, e_noIo_sh, e_Own_sh, e_here_ow, e_noIo_ow, e_Own_ow, e_here_io, e_noIo_io, e_Own_io, e_fz_sh, e_fz_ow, e_sv_sh, e_sv_ow, e_ret, e_retK, e_retN, e_expr, e_exprK, e_pass, e_break, e_cont, e_asg, e_asgK, e_asgB, e_sseq, e_set, e_setK1, e_setB, e_setK2, e_setO, e_setJ, e_nxO, e_setOwn, e_soK_ow, e_soK_io, e_app, e_appB, e_appK, e_appO, e_par, e_parA, e_parK, e_okI, e_iVal, e_iValK, e_items_lst, e_items_tup, e_items_str, e_iZp, e_iZpK, e_zp_l, e_zp_t, e_iRv, e_iRvK, e_rv_l, e_rv_t, e_iRg1, e_iRg1K, e_rg1, e_iRg2, e_iRg2K, e_rg2, e_for, e_forK, e_for_nil, e_for_cons, e_forG, e_forS_nx, e_forS_cnt, e_forS_brk, e_forS_ret, e_forS_exc, e_gVar, e_gvB, e_gTup, e_gTupW, e_gCons, e_gNil, d_add_i, d_add_s, d_add_l, d_add_t, d_mul_i, d_mul_s, d_mul_l, d_fdiv, d_mod, d_pow, d_neg, d_iI, d_ord_i, d_ord_s, d_eq_i, d_eq_s, d_ne_i, d_ne_s, d_len_l, d_len_t, d_abs, d_gcd, d_max2, d_min2, d_tup_l, d_tup_t, d_ix_l, d_ix_t, d_atR, at_0, at_1, at_2, ixn_0, ixn_1, ixn_2, e_run, e_fin_ret, e_fin_nx, e_fin_exc, e_outR, e_outX, e_out_none, e_out_some, e_ioS, e_arg_none, e_arg_nil, e_arg_0, e_arg_s, e_ioD, e_call, e_calK1, e_calK2, e_calO_ret, e_calO_exc, e_callP, e_cpK, e_cpD, e_cpC_s, e_cpC_x, e_cpC_o, e_cpS, e_cpX, e_gnil, e_gv, e_gvK1, e_gvK2, e_gs, e_gsB, e_gsK, e_go, e_goK, e_ads_nil, e_ads_cons, e_adC, e_adC2, e_adD_v, e_adD_s, e_adD_o, e_adO, e_pi, e_piK, e_sl, e_slK1, e_slK2, e_slK3, e_slO, e_part_n, e_part_i, d_slice_l, d_slice_t, e_sl3, e_s3K1, e_s3K2, e_s3K3, e_s3K4, e_s3O, e_lc, e_lcK, e_lcB, e_lcR, e_yes, e_okW2, e_okWS_no, e_okWS_sh, eq_self, log_7, List.length_cons, List.length_nil, List.map_cons, List.map_nil, List.cons_append, List.nil_append, List.replicate_succ, List.replicate_zero, List.append_nil, List.getElem?_cons_zero, List.getElem?_cons_succ, List.getElem?_nil, List.set_cons_zero, List.set_cons_succ, Option.bind_some, Option.bind_none, Option.isSome_some, Nat.reduceAdd, Nat.reduceSub, Nat.reduceLT, Nat.reduceLeDiff, Nat.reduceEqDiff, Int.reduceAdd, Int.reduceMul, Int.reduceNeg, Int.reducePow, Int.reduceLT, Int.reduceLE, and_self, and_true, true_and, if_true, if_false, ↓reduceIte, Bool.not_true, Bool.not_false, decide_true, decide_false, decide_eq_true_eq, List.all_cons, List.all_nil, Bool.and_true, Bool.true_and, Bool.and_self, wipeE, adPl, Int.reduceToNat, rng_5, abs_10, e8, cut_ints, hcl, hG, len_ints, app_ints]
  rw [if_pos (by omega)]
  simp only [e_iEn, e_iEnK, e_enD, e_iZq, e_iZqK, e_zq_ll, e_zq_tt, e_zq_lt, e_zq_tl, e_asgT, e_asgTK, e_asgO, e_call0, List.reverse_cons, List.reverse_nil, e_cmpV, e_cvH, e_cvB, e_cvO, e_cvZ, e_join, e_jK1, e_jK2, e_len_s, e_whK_f, e_whK_t, e_whS, restE, List.getD_cons_zero, List.getD_cons_succ, List.getD_nil, d_pow_6, d_pow_12, d_pow_18, d_pow_30, e_OE_bind_ok, e_OE_bind_exc, e_OE_bindT_ok, e_OE_bindT_exc, e_OE_bindA_ok, e_OE_bindA_exc, e_OE_bindS_ok, e_OE_bindS_exc, e_OE_bindI_ok, e_OE_bindI_exc, e_OE_bindG_ok, e_OE_bindG_exc, e_OT_bind_ok, e_OT_bind_exc, e_OT_bindE_ok, e_OT_bindE_exc, e_OT_bindS_ok, e_OT_bindS_exc, e_OA_bind_ok, e_OA_bind_exc, e_OA_bindE_ok, e_OA_bindE_exc, e_OA_bindI_ok, e_OA_bindI_exc, e_OI_bindE_ok, e_OI_bindE_exc, e_OI_bindS_ok, e_OI_bindS_exc, e_OG_bind_ok, e_OG_bind_exc, e_OG_bindE_ok, e_OG_bindE_exc, e_seq_nx, e_seq_ret, e_seq_brk, e_seq_cnt, e_seq_exc, e_var, e_varK_sh, e_varK_ow, e_mv, e_mvK_sh, e_mvK_ow, e_c, e_okO, e_op2, e_opK1, e_opK2, e_un, e_unK, e_and, e_or, e_not, e_tru, e_andK_t, e_andK_f, e_orK_t, e_orK_f, e_notK, e_truK, e_if, e_tand, e_tor, e_tnot, e_sif, e_ifK_t, e_ifK_f, e_sifK_t, e_sifK_f, e_tandK_t, e_tandK_f, e_torK_t, e_torK_f, e_tnotK, e_nil, e_cons, e_consK1, e_consK2, e_tup, e_lst, e_cb, e_tupK, e_lstK, e_cbK, e_chain, e_chK1, e_chK2, e_chK3, e_chB_t, e_chB_f, e_ixV, e_ixH, e_ixVK, e_ixE_own, e_ixE_sh, e_atO, e_ownAt, e_ownS_ow, e_ownS_io, e_ownS_lst, e_ownS_tup, e_ownS_str, e_ownS_int, e_lenV, e_lenK_own, e_lenK_sh, e_here_no, e_noIo_no, e_Own_no, e_here_sh, e_noIo_sh, e_Own_sh, e_here_ow, e_noIo_ow, e_Own_ow, e_here_io, e_noIo_io, e_Own_io, e_fz_sh, e_fz_ow, e_sv_sh, e_sv_ow, e_ret, e_retK, e_retN, e_expr, e_exprK, e_pass, e_break, e_cont, e_asg, e_asgK, e_asgB, e_sseq, e_set, e_setK1, e_setB, e_setK2, e_setO, e_setJ, e_nxO, e_setOwn, e_soK_ow, e_soK_io, e_app, e_appB, e_appK, e_appO, e_par, e_parA, e_parK, e_okI, e_iVal, e_iValK, e_items_lst, e_items_tup, e_items_str, e_iZp, e_iZpK, e_zp_l, e_zp_t, e_iRv, e_iRvK, e_rv_l, e_rv_t, e_iRg1, e_iRg1K, e_rg1, e_iRg2, e_iRg2K, e_rg2, e_for, e_forK, e_for_nil, e_for_cons, e_forG, e_forS_nx, e_forS_cnt, e_forS_brk, e_forS_ret, e_forS_exc, e_gVar, e_gvB, e_gTup, e_gTupW, e_gCons, e_gNil, d_add_i, d_add_s, d_add_l, d_add_t, d_mul_i, d_mul_s, d_mul_l, d_fdiv, d_mod, d_pow, d_neg, d_iI, d_ord_i, d_ord_s, d_eq_i, d_eq_s, d_ne_i, d_ne_s, d_len_l, d_len_t, d_abs, d_gcd, d_max2, d_min2, d_tup_l, d_tup_t, d_ix_l, d_ix_t, d_atR, at_0, at_1, at_2, ixn_0, ixn_1, ixn_2, e_run, e_fin_ret, e_fin_nx, e_fin_exc, e_outR, e_outX, e_out_none, e_out_some, e_ioS, e_arg_none, e_arg_nil, e_arg_0, e_arg_s, e_ioD, e_call, e_calK1, e_calK2, e_calO_ret, e_calO_exc, e_callP, e_cpK, e_cpD, e_cpC_s, e_cpC_x, e_cpC_o, e_cpS, e_cpX, e_gnil, e_gv, e_gvK1, e_gvK2, e_gs, e_gsB, e_gsK, e_go, e_goK, e_ads_nil, e_ads_cons, e_adC, e_adC2, e_adD_v, e_adD_s, e_adD_o, e_adO, e_pi, e_piK, e_sl, e_slK1, e_slK2, e_slK3, e_slO, e_part_n, e_part_i, d_slice_l, d_slice_t, e_sl3, e_s3K1, e_s3K2, e_s3K3, e_s3K4, e_s3O, e_lc, e_lcK, e_lcB, e_lcR, e_yes, e_okW2, e_okWS_no, e_okWS_sh, eq_self, log_7, List.length_cons, List.length_nil, List.map_cons, List.map_nil, List.cons_append, List.nil_append, List.replicate_succ, List.replicate_zero, List.append_nil, List.getElem?_cons_zero, List.getElem?_cons_succ, List.getElem?_nil, List.set_cons_zero, List.set_cons_succ, Option.bind_some, Option.bind_none, Option.isSome_some, Nat.reduceAdd, Nat.reduceSub, Nat.reduceLT, Nat.reduceLeDiff, Nat.reduceEqDiff, Int.reduceAdd, Int.reduceMul, Int.reduceNeg, Int.reducePow, Int.reduceLT, Int.reduceLE, and_self, and_true, true_and, if_true, if_false, ↓reduceIte, Bool.not_true, Bool.not_false, decide_true, decide_false, decide_eq_true_eq, List.all_cons, List.all_nil, Bool.and_true, Bool.true_and, Bool.and_self, wipeE, adPl, Int.reduceToNat, rng_5, abs_10, o5, i5, rev_ints]
  rw [lcL_pure (f := gVar 5) (ot := oYes) (oe := oOp2 (iI fun i j => i - j) (oC (D.int 0)) (oVar 5)) (ws := [5]) [SV.io p8, SV.sh (D.int b), SV.sh (D.lst (intsL ns)), SV.sh (D.int c), SV.sh (D.int (g : Int)), SV.no, SV.ow (intsL (ns ++ cl)), SV.no, SV.no, SV.no, SV.no, SV.no, SV.no] (fun i => 0 - i) ns.reverse [] (by rw [List.length_nil, List.length_reverse]; omega) (fun i _ => ⟨_, _, _, by (simp only [e_iEn, e_iEnK, e_enD, e_iZq, e_iZqK, e_zq_ll, e_zq_tt, e_zq_lt, e_zq_tl, e_asgT, e_asgTK, e_asgO, e_call0, List.reverse_cons, List.reverse_nil, e_cmpV, e_cvH, e_cvB, e_cvO, e_cvZ, e_join, e_jK1, e_jK2, e_len_s, e_whK_f, e_whK_t, e_whS, restE, List.getD_cons_zero, List.getD_cons_succ, List.getD_nil, d_pow_6, d_pow_12, d_pow_18, d_pow_30, e_OE_bind_ok, e_OE_bind_exc, e_OE_bindT_ok, e_OE_bindT_exc, e_OE_bindA_ok, e_OE_bindA_exc, e_OE_bindS_ok, e_OE_bindS_exc, e_OE_bindI_ok, e_OE_bindI_exc, e_OE_bindG_ok, e_OE_bindG_exc, e_OT_bind_ok, e_OT_bind_exc, e_OT_bindE_ok, e_OT_bindE_exc, e_OT_bindS_ok, e_OT_bindS_exc, e_OA_bind_ok, e_OA_bind_exc, e_OA_bindE_ok, e_OA_bindE_exc, e_OA_bindI_ok, e_OA_bindI_exc, e_OI_bindE_ok, e_OI_bindE_exc, e_OI_bindS_ok, e_OI_bindS_exc, e_OG_bind_ok, e_OG_bind_exc, e_OG_bindE_ok, e_OG_bindE_exc, e_seq_nx, e_seq_ret, e_seq_brk, e_seq_cnt, e_seq_exc, e_var, e_varK_sh, e_varK_ow, e_mv, e_mvK_sh, e_mvK_ow, e_c, e_okO, e_op2, e_opK1, e_opK2, e_un, e_unK, e_and, e_or, e_not, e_tru, e_andK_t, e_andK_f, e_orK_t, e_orK_f, e_notK, e_truK, e_if, e_tand, e_tor, e_tnot, e_sif, e_ifK_t, e_ifK_f, e_sifK_t, e_sifK_f, e_tandK_t, e_tandK_f, e_torK_t, e_torK_f, e_tnotK, e_nil, e_cons, e_consK1, e_consK2, e_tup, e_lst, e_cb, e_tupK, e_lstK, e_cbK, e_chain, e_chK1, e_chK2, e_chK3, e_chB_t, e_chB_f, e_ixV, e_ixH, e_ixVK, e_ixE_own, e_ixE_sh, e_atO, e_ownAt, e_ownS_ow, e_ownS_io, e_ownS_lst, e_ownS_tup, e_ownS_str, e_ownS_int, e_lenV, e_lenK_own, e_lenK_sh, e_here_no, e_noIo_no, e_Own_no, e_here_sh, e_noIo_sh, e_Own_sh, e_here_ow, e_noIo_ow, e_Own_ow, e_here_io, e_noIo_io, e_Own_io, e_fz_sh, e_fz_ow, e_sv_sh, e_sv_ow, e_ret, e_retK, e_retN, e_expr, e_exprK, e_pass, e_break, e_cont, e_asg, e_asgK, e_asgB, e_sseq, e_set, e_setK1, e_setB, e_setK2, e_setO, e_setJ, e_nxO, e_setOwn, e_soK_ow, e_soK_io, e_app, e_appB, e_appK, e_appO, e_par, e_parA, e_parK, e_okI, e_iVal, e_iValK, e_items_lst, e_items_tup, e_items_str, e_iZp, e_iZpK, e_zp_l, e_zp_t, e_iRv, e_iRvK, e_rv_l, e_rv_t, e_iRg1, e_iRg1K, e_rg1, e_iRg2, e_iRg2K, e_rg2, e_for, e_forK, e_for_nil, e_for_cons, e_forG, e_forS_nx, e_forS_cnt, e_forS_brk, e_forS_ret, e_forS_exc, e_gVar, e_gvB, e_gTup, e_gTupW, e_gCons, e_gNil, d_add_i, d_add_s, d_add_l, d_add_t, d_mul_i, d_mul_s, d_mul_l, d_fdiv, d_mod, d_pow, d_neg, d_iI, d_ord_i, d_ord_s, d_eq_i, d_eq_s, d_ne_i, d_ne_s, d_len_l, d_len_t, d_abs, d_gcd, d_max2, d_min2, d_tup_l, d_tup_t, d_ix_l, d_ix_t, d_atR, at_0, at_1, at_2, ixn_0, ixn_1, ixn_2, e_run, e_fin_ret, e_fin_nx, e_fin_exc, e_outR, e_outX, e_out_none, e_out_some, e_ioS, e_arg_none, e_arg_nil, e_arg_0, e_arg_s, e_ioD, e_call, e_calK1, e_calK2, e_calO_ret, e_calO_exc, e_callP, e_cpK, e_cpD, e_cpC_s, e_cpC_x, e_cpC_o, e_cpS, e_cpX, e_gnil, e_gv, e_gvK1, e_gvK2, e_gs, e_gsB, e_gsK, e_go, e_goK, e_ads_nil, e_ads_cons, e_adC, e_adC2, e_adD_v, e_adD_s, e_adD_o, e_adO, e_pi, e_piK, e_sl, e_slK1, e_slK2, e_slK3, e_slO, e_part_n, e_part_i, d_slice_l, d_slice_t, e_sl3, e_s3K1, e_s3K2, e_s3K3, e_s3K4, e_s3O, e_lc, e_lcK, e_lcB, e_lcR, e_yes, e_okW2, e_okWS_no, e_okWS_sh, eq_self, log_7, List.length_cons, List.length_nil, List.map_cons, List.map_nil, List.cons_append, List.nil_append, List.replicate_succ, List.replicate_zero, List.append_nil, List.getElem?_cons_zero, List.getElem?_cons_succ, List.getElem?_nil, List.set_cons_zero, List.set_cons_succ, Option.bind_some, Option.bind_none, Option.isSome_some, Nat.reduceAdd, Nat.reduceSub, Nat.reduceLT, Nat.reduceLeDiff, Nat.reduceEqDiff, Int.reduceAdd, Int.reduceMul, Int.reduceNeg, Int.reducePow, Int.reduceLT, Int.reduceLE, and_self, and_true, true_and, if_true, if_false, ↓reduceIte, Bool.not_true, Bool.not_false, decide_true, decide_false, decide_eq_true_eq, List.all_cons, List.all_nil, Bool.and_true, Bool.true_and, Bool.and_self, wipeE, adPl, Int.reduceToNat, rng_5, abs_10]) <;> rfl, by (simp only [e_iEn, e_iEnK, e_enD, e_iZq, e_iZqK, e_zq_ll, e_zq_tt, e_zq_lt, e_zq_tl, e_asgT, e_asgTK, e_asgO, e_call0, List.reverse_cons, List.reverse_nil, e_cmpV, e_cvH, e_cvB, e_cvO, e_cvZ, e_join, e_jK1, e_jK2, e_len_s, e_whK_f, e_whK_t, e_whS, restE, List.getD_cons_zero, List.getD_cons_succ, List.getD_nil, d_pow_6, d_pow_12, d_pow_18, d_pow_30, e_OE_bind_ok, e_OE_bind_exc, e_OE_bindT_ok, e_OE_bindT_exc, e_OE_bindA_ok, e_OE_bindA_exc, e_OE_bindS_ok, e_OE_bindS_exc, e_OE_bindI_ok, e_OE_bindI_exc, e_OE_bindG_ok, e_OE_bindG_exc, e_OT_bind_ok, e_OT_bind_exc, e_OT_bindE_ok, e_OT_bindE_exc, e_OT_bindS_ok, e_OT_bindS_exc, e_OA_bind_ok, e_OA_bind_exc, e_OA_bindE_ok, e_OA_bindE_exc, e_OA_bindI_ok, e_OA_bindI_exc, e_OI_bindE_ok, e_OI_bindE_exc, e_OI_bindS_ok, e_OI_bindS_exc, e_OG_bind_ok, e_OG_bind_exc, e_OG_bindE_ok, e_OG_bindE_exc, e_seq_nx, e_seq_ret, e_seq_brk, e_seq_cnt, e_seq_exc, e_var, e_varK_sh, e_varK_ow, e_mv, e_mvK_sh, e_mvK_ow, e_c, e_okO, e_op2, e_opK1, e_opK2, e_un, e_unK, e_and, e_or, e_not, e_tru, e_andK_t, e_andK_f, e_orK_t, e_orK_f, e_notK, e_truK, e_if, e_tand, e_tor, e_tnot, e_sif, e_ifK_t, e_ifK_f, e_sifK_t, e_sifK_f, e_tandK_t, e_tandK_f, e_torK_t, e_torK_f, e_tnotK, e_nil, e_cons, e_consK1, e_consK2, e_tup, e_lst, e_cb, e_tupK, e_lstK, e_cbK, e_chain, e_chK1, e_chK2, e_chK3, e_chB_t, e_chB_f, e_ixV, e_ixH, e_ixVK, e_ixE_own, e_ixE_sh, e_atO, e_ownAt, e_ownS_ow, e_ownS_io, e_ownS_lst, e_ownS_tup, e_ownS_str, e_ownS_int, e_lenV, e_lenK_own, e_lenK_sh, e_here_no, e_noIo_no, e_Own_no, e_here_sh, e_noIo_sh, e_Own_sh, e_here_ow, e_noIo_ow, e_Own_ow, e_here_io, e_noIo_io, e_Own_io, e_fz_sh, e_fz_ow, e_sv_sh, e_sv_ow, e_ret, e_retK, e_retN, e_expr, e_exprK, e_pass, e_break, e_cont, e_asg, e_asgK, e_asgB, e_sseq, e_set, e_setK1, e_setB, e_setK2, e_setO, e_setJ, e_nxO, e_setOwn, e_soK_ow, e_soK_io, e_app, e_appB, e_appK, e_appO, e_par, e_parA, e_parK, e_okI, e_iVal, e_iValK, e_items_lst, e_items_tup, e_items_str, e_iZp, e_iZpK, e_zp_l, e_zp_t, e_iRv, e_iRvK, e_rv_l, e_rv_t, e_iRg1, e_iRg1K, e_rg1, e_iRg2, e_iRg2K, e_rg2, e_for, e_forK, e_for_nil, e_for_cons, e_forG, e_forS_nx, e_forS_cnt, e_forS_brk, e_forS_ret, e_forS_exc, e_gVar, e_gvB, e_gTup, e_gTupW, e_gCons, e_gNil, d_add_i, d_add_s, d_add_l, d_add_t, d_mul_i, d_mul_s, d_mul_l, d_fdiv, d_mod, d_pow, d_neg, d_iI, d_ord_i, d_ord_s, d_eq_i, d_eq_s, d_ne_i, d_ne_s, d_len_l, d_len_t, d_abs, d_gcd, d_max2, d_min2, d_tup_l, d_tup_t, d_ix_l, d_ix_t, d_atR, at_0, at_1, at_2, ixn_0, ixn_1, ixn_2, e_run, e_fin_ret, e_fin_nx, e_fin_exc, e_outR, e_outX, e_out_none, e_out_some, e_ioS, e_arg_none, e_arg_nil, e_arg_0, e_arg_s, e_ioD, e_call, e_calK1, e_calK2, e_calO_ret, e_calO_exc, e_callP, e_cpK, e_cpD, e_cpC_s, e_cpC_x, e_cpC_o, e_cpS, e_cpX, e_gnil, e_gv, e_gvK1, e_gvK2, e_gs, e_gsB, e_gsK, e_go, e_goK, e_ads_nil, e_ads_cons, e_adC, e_adC2, e_adD_v, e_adD_s, e_adD_o, e_adO, e_pi, e_piK, e_sl, e_slK1, e_slK2, e_slK3, e_slO, e_part_n, e_part_i, d_slice_l, d_slice_t, e_sl3, e_s3K1, e_s3K2, e_s3K3, e_s3K4, e_s3O, e_lc, e_lcK, e_lcB, e_lcR, e_yes, e_okW2, e_okWS_no, e_okWS_sh, eq_self, log_7, List.length_cons, List.length_nil, List.map_cons, List.map_nil, List.cons_append, List.nil_append, List.replicate_succ, List.replicate_zero, List.append_nil, List.getElem?_cons_zero, List.getElem?_cons_succ, List.getElem?_nil, List.set_cons_zero, List.set_cons_succ, Option.bind_some, Option.bind_none, Option.isSome_some, Nat.reduceAdd, Nat.reduceSub, Nat.reduceLT, Nat.reduceLeDiff, Nat.reduceEqDiff, Int.reduceAdd, Int.reduceMul, Int.reduceNeg, Int.reducePow, Int.reduceLT, Int.reduceLE, and_self, and_true, true_and, if_true, if_false, ↓reduceIte, Bool.not_true, Bool.not_false, decide_true, decide_false, decide_eq_true_eq, List.all_cons, List.all_nil, Bool.and_true, Bool.true_and, Bool.and_self, wipeE, adPl, Int.reduceToNat, rng_5, abs_10]) <;> rfl, by (simp only [e_iEn, e_iEnK, e_enD, e_iZq, e_iZqK, e_zq_ll, e_zq_tt, e_zq_lt, e_zq_tl, e_asgT, e_asgTK, e_asgO, e_call0, List.reverse_cons, List.reverse_nil, e_cmpV, e_cvH, e_cvB, e_cvO, e_cvZ, e_join, e_jK1, e_jK2, e_len_s, e_whK_f, e_whK_t, e_whS, restE, List.getD_cons_zero, List.getD_cons_succ, List.getD_nil, d_pow_6, d_pow_12, d_pow_18, d_pow_30, e_OE_bind_ok, e_OE_bind_exc, e_OE_bindT_ok, e_OE_bindT_exc, e_OE_bindA_ok, e_OE_bindA_exc, e_OE_bindS_ok, e_OE_bindS_exc, e_OE_bindI_ok, e_OE_bindI_exc, e_OE_bindG_ok, e_OE_bindG_exc, e_OT_bind_ok, e_OT_bind_exc, e_OT_bindE_ok, e_OT_bindE_exc, e_OT_bindS_ok, e_OT_bindS_exc, e_OA_bind_ok, e_OA_bind_exc, e_OA_bindE_ok, e_OA_bindE_exc, e_OA_bindI_ok, e_OA_bindI_exc, e_OI_bindE_ok, e_OI_bindE_exc, e_OI_bindS_ok, e_OI_bindS_exc, e_OG_bind_ok, e_OG_bind_exc, e_OG_bindE_ok, e_OG_bindE_exc, e_seq_nx, e_seq_ret, e_seq_brk, e_seq_cnt, e_seq_exc, e_var, e_varK_sh, e_varK_ow, e_mv, e_mvK_sh, e_mvK_ow, e_c, e_okO, e_op2, e_opK1, e_opK2, e_un, e_unK, e_and, e_or, e_not, e_tru, e_andK_t, e_andK_f, e_orK_t, e_orK_f, e_notK, e_truK, e_if, e_tand, e_tor, e_tnot, e_sif, e_ifK_t, e_ifK_f, e_sifK_t, e_sifK_f, e_tandK_t, e_tandK_f, e_torK_t, e_torK_f, e_tnotK, e_nil, e_cons, e_consK1, e_consK2, e_tup, e_lst, e_cb, e_tupK, e_lstK, e_cbK, e_chain, e_chK1, e_chK2, e_chK3, e_chB_t, e_chB_f, e_ixV, e_ixH, e_ixVK, e_ixE_own, e_ixE_sh, e_atO, e_ownAt, e_ownS_ow, e_ownS_io, e_ownS_lst, e_ownS_tup, e_ownS_str, e_ownS_int, e_lenV, e_lenK_own, e_lenK_sh, e_here_no, e_noIo_no, e_Own_no, e_here_sh, e_noIo_sh, e_Own_sh, e_here_ow, e_noIo_ow, e_Own_ow, e_here_io, e_noIo_io, e_Own_io, e_fz_sh, e_fz_ow, e_sv_sh, e_sv_ow, e_ret, e_retK, e_retN, e_expr, e_exprK, e_pass, e_break, e_cont, e_asg, e_asgK, e_asgB, e_sseq, e_set, e_setK1, e_setB, e_setK2, e_setO, e_setJ, e_nxO, e_setOwn, e_soK_ow, e_soK_io, e_app, e_appB, e_appK, e_appO, e_par, e_parA, e_parK, e_okI, e_iVal, e_iValK, e_items_lst, e_items_tup, e_items_str, e_iZp, e_iZpK, e_zp_l, e_zp_t, e_iRv, e_iRvK, e_rv_l, e_rv_t, e_iRg1, e_iRg1K, e_rg1, e_iRg2, e_iRg2K, e_rg2, e_for, e_forK, e_for_nil, e_for_cons, e_forG, e_forS_nx, e_forS_cnt, e_forS_brk, e_forS_ret, e_forS_exc, e_gVar, e_gvB, e_gTup, e_gTupW, e_gCons, e_gNil, d_add_i, d_add_s, d_add_l, d_add_t, d_mul_i, d_mul_s, d_mul_l, d_fdiv, d_mod, d_pow, d_neg, d_iI, d_ord_i, d_ord_s, d_eq_i, d_eq_s, d_ne_i, d_ne_s, d_len_l, d_len_t, d_abs, d_gcd, d_max2, d_min2, d_tup_l, d_tup_t, d_ix_l, d_ix_t, d_atR, at_0, at_1, at_2, ixn_0, ixn_1, ixn_2, e_run, e_fin_ret, e_fin_nx, e_fin_exc, e_outR, e_outX, e_out_none, e_out_some, e_ioS, e_arg_none, e_arg_nil, e_arg_0, e_arg_s, e_ioD, e_call, e_calK1, e_calK2, e_calO_ret, e_calO_exc, e_callP, e_cpK, e_cpD, e_cpC_s, e_cpC_x, e_cpC_o, e_cpS, e_cpX, e_gnil, e_gv, e_gvK1, e_gvK2, e_gs, e_gsB, e_gsK, e_go, e_goK, e_ads_nil, e_ads_cons, e_adC, e_adC2, e_adD_v, e_adD_s, e_adD_o, e_adO, e_pi, e_piK, e_sl, e_slK1, e_slK2, e_slK3, e_slO, e_part_n, e_part_i, d_slice_l, d_slice_t, e_sl3, e_s3K1, e_s3K2, e_s3K3, e_s3K4, e_s3O, e_lc, e_lcK, e_lcB, e_lcR, e_yes, e_okW2, e_okWS_no, e_okWS_sh, eq_self, log_7, List.length_cons, List.length_nil, List.map_cons, List.map_nil, List.cons_append, List.nil_append, List.replicate_succ, List.replicate_zero, List.append_nil, List.getElem?_cons_zero, List.getElem?_cons_succ, List.getElem?_nil, List.set_cons_zero, List.set_cons_succ, Option.bind_some, Option.bind_none, Option.isSome_some, Nat.reduceAdd, Nat.reduceSub, Nat.reduceLT, Nat.reduceLeDiff, Nat.reduceEqDiff, Int.reduceAdd, Int.reduceMul, Int.reduceNeg, Int.reducePow, Int.reduceLT, Int.reduceLE, and_self, and_true, true_and, if_true, if_false, ↓reduceIte, Bool.not_true, Bool.not_false, decide_true, decide_false, decide_eq_true_eq, List.all_cons, List.all_nil, Bool.and_true, Bool.true_and, Bool.and_self, wipeE, adPl, Int.reduceToNat, rng_5, abs_10]) <;> rfl, by (simp only [e_iEn, e_iEnK, e_enD, e_iZq, e_iZqK, e_zq_ll, e_zq_tt, e_zq_lt, e_zq_tl, e_asgT, e_asgTK, e_asgO, e_call0, List.reverse_cons, List.reverse_nil, e_cmpV, e_cvH, e_cvB, e_cvO, e_cvZ, e_join, e_jK1, e_jK2, e_len_s, e_whK_f, e_whK_t, e_whS, restE, List.getD_cons_zero, List.getD_cons_succ, List.getD_nil, d_pow_6, d_pow_12, d_pow_18, d_pow_30, e_OE_bind_ok, e_OE_bind_exc, e_OE_bindT_ok, e_OE_bindT_exc, e_OE_bindA_ok, e_OE_bindA_exc, e_OE_bindS_ok, e_OE_bindS_exc, e_OE_bindI_ok, e_OE_bindI_exc, e_OE_bindG_ok, e_OE_bindG_exc, e_OT_bind_ok, e_OT_bind_exc, e_OT_bindE_ok, e_OT_bindE_exc, e_OT_bindS_ok, e_OT_bindS_exc, e_OA_bind_ok, e_OA_bind_exc, e_OA_bindE_ok, e_OA_bindE_exc, e_OA_bindI_ok, e_OA_bindI_exc, e_OI_bindE_ok, e_OI_bindE_exc, e_OI_bindS_ok, e_OI_bindS_exc, e_OG_bind_ok, e_OG_bind_exc, e_OG_bindE_ok, e_OG_bindE_exc, e_seq_nx, e_seq_ret, e_seq_brk, e_seq_cnt, e_seq_exc, e_var, e_varK_sh, e_varK_ow, e_mv, e_mvK_sh, e_mvK_ow, e_c, e_okO, e_op2, e_opK1, e_opK2, e_un, e_unK, e_and, e_or, e_not, e_tru, e_andK_t, e_andK_f, e_orK_t, e_orK_f, e_notK, e_truK, e_if, e_tand, e_tor, e_tnot, e_sif, e_ifK_t, e_ifK_f, e_sifK_t, e_sifK_f, e_tandK_t, e_tandK_f, e_torK_t, e_torK_f, e_tnotK, e_nil, e_cons, e_consK1, e_consK2, e_tup, e_lst, e_cb, e_tupK, e_lstK, e_cbK, e_chain, e_chK1, e_chK2, e_chK3, e_chB_t, e_chB_f, e_ixV, e_ixH, e_ixVK, e_ixE_own, e_ixE_sh, e_atO, e_ownAt, e_ownS_ow, e_ownS_io, e_ownS_lst, e_ownS_tup, e_ownS_str, e_ownS_int, e_lenV, e_lenK_own, e_lenK_sh, e_here_no, e_noIo_no, e_Own_no, e_here_sh, e_noIo_sh, e_Own_sh, e_here_ow, e_noIo_ow, e_Own_ow, e_here_io, e_noIo_io, e_Own_io, e_fz_sh, e_fz_ow, e_sv_sh, e_sv_ow, e_ret, e_retK, e_retN, e_expr, e_exprK, e_pass, e_break, e_cont, e_asg, e_asgK, e_asgB, e_sseq, e_set, e_setK1, e_setB, e_setK2, e_setO, e_setJ, e_nxO, e_setOwn, e_soK_ow, e_soK_io, e_app, e_appB, e_appK, e_appO, e_par, e_parA, e_parK, e_okI, e_iVal, e_iValK, e_items_lst, e_items_tup, e_items_str, e_iZp, e_iZpK, e_zp_l, e_zp_t, e_iRv, e_iRvK, e_rv_l, e_rv_t, e_iRg1, e_iRg1K, e_rg1, e_iRg2, e_iRg2K, e_rg2, e_for, e_forK, e_for_nil, e_for_cons, e_forG, e_forS_nx, e_forS_cnt, e_forS_brk, e_forS_ret, e_forS_exc, e_gVar, e_gvB, e_gTup, e_gTupW, e_gCons, e_gNil, d_add_i, d_add_s, d_add_l, d_add_t, d_mul_i, d_mul_s, d_mul_l, d_fdiv, d_mod, d_pow, d_neg, d_iI, d_ord_i, d_ord_s, d_eq_i, d_eq_s, d_ne_i, d_ne_s, d_len_l, d_len_t, d_abs, d_gcd, d_max2, d_min2, d_tup_l, d_tup_t, d_ix_l, d_ix_t, d_atR, at_0, at_1, at_2, ixn_0, ixn_1, ixn_2, e_run, e_fin_ret, e_fin_nx, e_fin_exc, e_outR, e_outX, e_out_none, e_out_some, e_ioS, e_arg_none, e_arg_nil, e_arg_0, e_arg_s, e_ioD, e_call, e_calK1, e_calK2, e_calO_ret, e_calO_exc, e_callP, e_cpK, e_cpD, e_cpC_s, e_cpC_x, e_cpC_o, e_cpS, e_cpX, e_gnil, e_gv, e_gvK1, e_gvK2, e_gs, e_gsB, e_gsK, e_go, e_goK, e_ads_nil, e_ads_cons, e_adC, e_adC2, e_adD_v, e_adD_s, e_adD_o, e_adO, e_pi, e_piK, e_sl, e_slK1, e_slK2, e_slK3, e_slO, e_part_n, e_part_i, d_slice_l, d_slice_t, e_sl3, e_s3K1, e_s3K2, e_s3K3, e_s3K4, e_s3O, e_lc, e_lcK, e_lcB, e_lcR, e_yes, e_okW2, e_okWS_no, e_okWS_sh, eq_self, log_7, List.length_cons, List.length_nil, List.map_cons, List.map_nil, List.cons_append, List.nil_append, List.replicate_succ, List.replicate_zero, List.append_nil, List.getElem?_cons_zero, List.getElem?_cons_succ, List.getElem?_nil, List.set_cons_zero, List.set_cons_succ, Option.bind_some, Option.bind_none, Option.isSome_some, Nat.reduceAdd, Nat.reduceSub, Nat.reduceLT, Nat.reduceLeDiff, Nat.reduceEqDiff, Int.reduceAdd, Int.reduceMul, Int.reduceNeg, Int.reducePow, Int.reduceLT, Int.reduceLE, and_self, and_true, true_and, if_true, if_false, ↓reduceIte, Bool.not_true, Bool.not_false, decide_true, decide_false, decide_eq_true_eq, List.all_cons, List.all_nil, Bool.and_true, Bool.true_and, Bool.and_self, wipeE, adPl, Int.reduceToNat, rng_5, abs_10]), by (simp only [e_iEn, e_iEnK, e_enD, e_iZq, e_iZqK, e_zq_ll, e_zq_tt, e_zq_lt, e_zq_tl, e_asgT, e_asgTK, e_asgO, e_call0, List.reverse_cons, List.reverse_nil, e_cmpV, e_cvH, e_cvB, e_cvO, e_cvZ, e_join, e_jK1, e_jK2, e_len_s, e_whK_f, e_whK_t, e_whS, restE, List.getD_cons_zero, List.getD_cons_succ, List.getD_nil, d_pow_6, d_pow_12, d_pow_18, d_pow_30, e_OE_bind_ok, e_OE_bind_exc, e_OE_bindT_ok, e_OE_bindT_exc, e_OE_bindA_ok, e_OE_bindA_exc, e_OE_bindS_ok, e_OE_bindS_exc, e_OE_bindI_ok, e_OE_bindI_exc, e_OE_bindG_ok, e_OE_bindG_exc, e_OT_bind_ok, e_OT_bind_exc, e_OT_bindE_ok, e_OT_bindE_exc, e_OT_bindS_ok, e_OT_bindS_exc, e_OA_bind_ok, e_OA_bind_exc, e_OA_bindE_ok, e_OA_bindE_exc, e_OA_bindI_ok, e_OA_bindI_exc, e_OI_bindE_ok, e_OI_bindE_exc, e_OI_bindS_ok, e_OI_bindS_exc, e_OG_bind_ok, e_OG_bind_exc, e_OG_bindE_ok, e_OG_bindE_exc, e_seq_nx, e_seq_ret, e_seq_brk, e_seq_cnt, e_seq_exc, e_var, e_varK_sh, e_varK_ow, e_mv, e_mvK_sh, e_mvK_ow, e_c, e_okO, e_op2, e_opK1, e_opK2, e_un, e_unK, e_and, e_or, e_not, e_tru, e_andK_t, e_andK_f, e_orK_t, e_orK_f, e_notK, e_truK, e_if, e_tand, e_tor, e_tnot, e_sif, e_ifK_t, e_ifK_f, e_sifK_t, e_sifK_f, e_tandK_t, e_tandK_f, e_torK_t, e_torK_f, e_tnotK, e_nil, e_cons, e_consK1, e_consK2, e_tup, e_lst, e_cb, e_tupK, e_lstK, e_cbK, e_chain, e_chK1, e_chK2, e_chK3, e_chB_t, e_chB_f, e_ixV, e_ixH, e_ixVK, e_ixE_own, e_ixE_sh, e_atO, e_ownAt, e_ownS_ow, e_ownS_io, e_ownS_lst, e_ownS_tup, e_ownS_str, e_ownS_int, e_lenV, e_lenK_own, e_lenK_sh, e_here_no, e_noIo_no, e_Own_no, e_here_sh, e_noIo_sh, e_Own_sh, e_here_ow, e_noIo_ow, e_Own_ow, e_here_io, e_noIo_io, e_Own_io, e_fz_sh, e_fz_ow, e_sv_sh, e_sv_ow, e_ret, e_retK, e_retN, e_expr, e_exprK, e_pass, e_break, e_cont, e_asg, e_asgK, e_asgB, e_sseq, e_set, e_setK1, e_setB, e_setK2, e_setO, e_setJ, e_nxO, e_setOwn, e_soK_ow, e_soK_io, e_app, e_appB, e_appK, e_appO, e_par, e_parA, e_parK, e_okI, e_iVal, e_iValK, e_items_lst, e_items_tup, e_items_str, e_iZp, e_iZpK, e_zp_l, e_zp_t, e_iRv, e_iRvK, e_rv_l, e_rv_t, e_iRg1, e_iRg1K, e_rg1, e_iRg2, e_iRg2K, e_rg2, e_for, e_forK, e_for_nil, e_for_cons, e_forG, e_forS_nx, e_forS_cnt, e_forS_brk, e_forS_ret, e_forS_exc, e_gVar, e_gvB, e_gTup, e_gTupW, e_gCons, e_gNil, d_add_i, d_add_s, d_add_l, d_add_t, d_mul_i, d_mul_s, d_mul_l, d_fdiv, d_mod, d_pow, d_neg, d_iI, d_ord_i, d_ord_s, d_eq_i, d_eq_s, d_ne_i, d_ne_s, d_len_l, d_len_t, d_abs, d_gcd, d_max2, d_min2, d_tup_l, d_tup_t, d_ix_l, d_ix_t, d_atR, at_0, at_1, at_2, ixn_0, ixn_1, ixn_2, e_run, e_fin_ret, e_fin_nx, e_fin_exc, e_outR, e_outX, e_out_none, e_out_some, e_ioS, e_arg_none, e_arg_nil, e_arg_0, e_arg_s, e_ioD, e_call, e_calK1, e_calK2, e_calO_ret, e_calO_exc, e_callP, e_cpK, e_cpD, e_cpC_s, e_cpC_x, e_cpC_o, e_cpS, e_cpX, e_gnil, e_gv, e_gvK1, e_gvK2, e_gs, e_gsB, e_gsK, e_go, e_goK, e_ads_nil, e_ads_cons, e_adC, e_adC2, e_adD_v, e_adD_s, e_adD_o, e_adO, e_pi, e_piK, e_sl, e_slK1, e_slK2, e_slK3, e_slO, e_part_n, e_part_i, d_slice_l, d_slice_t, e_sl3, e_s3K1, e_s3K2, e_s3K3, e_s3K4, e_s3O, e_lc, e_lcK, e_lcB, e_lcR, e_yes, e_okW2, e_okWS_no, e_okWS_sh, eq_self, log_7, List.length_cons, List.length_nil, List.map_cons, List.map_nil, List.cons_append, List.nil_append, List.replicate_succ, List.replicate_zero, List.append_nil, List.getElem?_cons_zero, List.getElem?_cons_succ, List.getElem?_nil, List.set_cons_zero, List.set_cons_succ, Option.bind_some, Option.bind_none, Option.isSome_some, Nat.reduceAdd, Nat.reduceSub, Nat.reduceLT, Nat.reduceLeDiff, Nat.reduceEqDiff, Int.reduceAdd, Int.reduceMul, Int.reduceNeg, Int.reducePow, Int.reduceLT, Int.reduceLE, and_self, and_true, true_and, if_true, if_false, ↓reduceIte, Bool.not_true, Bool.not_false, decide_true, decide_false, decide_eq_true_eq, List.all_cons, List.all_nil, Bool.and_true, Bool.true_and, Bool.and_self, wipeE, adPl, Int.reduceToNat, rng_5, abs_10])⟩)]
  generalize hag : ns.reverse.map (fun i => 0 - i) = ag at g5
  have hagb : ∀ y ∈ ag, -(10 ^ 30) ≤ y ∧ y ≤ 10 ^ 30 := fun y hy => by
    rw [← hag] at hy
    obtain ⟨z, hz, rfl⟩ := List.mem_map.mp hy
    have := hns z (List.mem_reverse.mp hz)
    omega
  have lag : ag.length ≤ 20 := by
    rw [← hag, List.length_map, List.length_reverse]
    exact ln
  -- the rows, as they are shown
  have sh1 : ∀ (x : Int) (ms : List Int), -(10 ^ 30) ≤ x → x ≤ 10 ^ 30 → (∀ y ∈ ms, -(10 ^ 30) ≤ y ∧ y ≤ 10 ^ 30) → ms.length ≤ 40 → ShowOk (.lst (.int x :: intsL ms)) 41 1 ∧ ShowOk (.tup (.int x :: intsL ms)) 41 1 := fun x ms h1 h2 h3 h4 => by
    have all : ∀ d ∈ intsL (x :: ms), ShowOk d 0 0 := showInts fun y hy => by
      rcases List.mem_cons.mp hy with rfl | hy
      · omega
      · have := h3 y hy
        omega
    have hl : (intsL (x :: ms)).length ≤ 41 := by rw [len_ints, List.length_cons]; omega
    exact ⟨showLst all hl, showTup all hl⟩
  have hncl : ∀ y ∈ ns ++ cl, -(10 ^ 30) ≤ y ∧ y ≤ 10 ^ 30 := fun y hy => by
    rcases List.mem_append.mp hy with hy | hy
    · exact hns y hy
    · exact hns y (cutm y hy)
  have rK : reprF [D.lst [.lst (.int c :: intsL ns), .tup (.int c :: intsL ns), .lst (.int (c / 7) :: intsL ns), .lst (.int 0 :: intsL (ns ++ cl)), .lst (.int (g : Int) :: intsL ag)]] = some (.sh (.str (D.lst [.lst (.int c :: intsL ns), .tup (.int c :: intsL ns), .lst (.int (c / 7) :: intsL ns), .lst (.int 0 :: intsL (ns ++ cl)), .lst (.int (g : Int) :: intsL ag)]).pyd.shown)) := by
    refine repr_ok (b := 5 * 42) (n := 2) (showLst (b := 41) (n := 1) (L := 5) (fun d hd => ?_) (by simp)) (by decide) (by decide)
    simp only [List.mem_cons, List.not_mem_nil, or_false] at hd
    rcases hd with rfl | rfl | rfl | rfl | rfl
    · exact (sh1 c ns (by omega) (by omega) hns (by omega)).1
    · exact (sh1 c ns (by omega) (by omega) hns (by omega)).2
    · exact (sh1 (c / 7) ns (by omega) (by omega) hns (by omega)).1
    · exact (sh1 0 (ns ++ cl) (by omega) (by omega) hncl (by rw [List.length_append]; omega)).1
    · exact (sh1 g ag (by omega) (by omega) hagb (by omega)).1
  generalize hSK : (D.lst [.lst (.int c :: intsL ns), .tup (.int c :: intsL ns), .lst (.int (c / 7) :: intsL ns), .lst (.int 0 :: intsL (ns ++ cl)), .lst (.int (g : Int) :: intsL ag)]).pyd.shown = SK at rK
  obtain ⟨SG, rG⟩ := repr_int (i := (g : Int)) (by omega) (by omega)
  have d1 : ∀ x : Int, f_divisor_of [.lst (.int x :: intsL ns)] = .ret (.sh (.int (g : Int))) [] := fun x => by rw [divisor_l, hG]
  have d2 : ∀ x : Int, f_divisor_of [.tup (.int x :: intsL ns)] = .ret (.sh (.int (g : Int))) [] := fun x => by rw [divisor_t, hG]
  have d4 : f_divisor_of [.lst (.int 0 :: intsL (ns ++ cl))] = .ret (.sh (.int (g : Int))) [] := by rw [divisor_l, g4]
  have d5 : f_divisor_of [.lst (.int g :: intsL ag)] = .ret (.sh (.int (g : Int))) [] := by rw [divisor_l, g5]
  have le1 : 1 + ns.length ≤ 1000000 := by omega
  have le2 : 1 + (ns ++ cl).length ≤ 1000000 := by rw [List.length_append]; omega
  have le3 : 1 + ag.length ≤ 1000000 := by omega
  have z1 : ∀ m : Nat, 0 + 1 + m = 1 + m := fun m => by omega
  simp only [e_iEn, e_iEnK, e_enD, e_iZq, e_iZqK, e_zq_ll, e_zq_tt, e_zq_lt, e_zq_tl, e_asgT, e_asgTK, e_asgO, e_call0, List.reverse_cons, List.reverse_nil, e_cmpV, e_cvH, e_cvB, e_cvO, e_cvZ, e_join, e_jK1, e_jK2, e_len_s, e_whK_f, e_whK_t, e_whS, restE, List.getD_cons_zero, List.getD_cons_succ, List.getD_nil, d_pow_6, d_pow_12, d_pow_18, d_pow_30, e_OE_bind_ok, e_OE_bind_exc, e_OE_bindT_ok, e_OE_bindT_exc, e_OE_bindA_ok, e_OE_bindA_exc, e_OE_bindS_ok, e_OE_bindS_exc, e_OE_bindI_ok, e_OE_bindI_exc, e_OE_bindG_ok, e_OE_bindG_exc, e_OT_bind_ok, e_OT_bind_exc, e_OT_bindE_ok, e_OT_bindE_exc, e_OT_bindS_ok, e_OT_bindS_exc, e_OA_bind_ok, e_OA_bind_exc, e_OA_bindE_ok, e_OA_bindE_exc, e_OA_bindI_ok, e_OA_bindI_exc, e_OI_bindE_ok, e_OI_bindE_exc, e_OI_bindS_ok, e_OI_bindS_exc, e_OG_bind_ok, e_OG_bind_exc, e_OG_bindE_ok, e_OG_bindE_exc, e_seq_nx, e_seq_ret, e_seq_brk, e_seq_cnt, e_seq_exc, e_var, e_varK_sh, e_varK_ow, e_mv, e_mvK_sh, e_mvK_ow, e_c, e_okO, e_op2, e_opK1, e_opK2, e_un, e_unK, e_and, e_or, e_not, e_tru, e_andK_t, e_andK_f, e_orK_t, e_orK_f, e_notK, e_truK, e_if, e_tand, e_tor, e_tnot, e_sif, e_ifK_t, e_ifK_f, e_sifK_t, e_sifK_f, e_tandK_t, e_tandK_f, e_torK_t, e_torK_f, e_tnotK, e_nil, e_cons, e_consK1, e_consK2, e_tup, e_lst, e_cb, e_tupK, e_lstK, e_cbK, e_chain, e_chK1, e_chK2, e_chK3, e_chB_t, e_chB_f, e_ixV, e_ixH, e_ixVK, e_ixE_own, e_ixE_sh, e_atO, e_ownAt, e_ownS_ow, e_ownS_io, e_ownS_lst, e_ownS_tup, e_ownS_str, e_ownS_int, e_lenV, e_lenK_own, e_lenK_sh, e_here_no, e_noIo_no, e_Own_no, e_here_sh, e_noIo_sh, e_Own_sh, e_here_ow, e_noIo_ow, e_Own_ow, e_here_io, e_noIo_io, e_Own_io, e_fz_sh, e_fz_ow, e_sv_sh, e_sv_ow, e_ret, e_retK, e_retN, e_expr, e_exprK, e_pass, e_break, e_cont, e_asg, e_asgK, e_asgB, e_sseq, e_set, e_setK1, e_setB, e_setK2, e_setO, e_setJ, e_nxO, e_setOwn, e_soK_ow, e_soK_io, e_app, e_appB, e_appK, e_appO, e_par, e_parA, e_parK, e_okI, e_iVal, e_iValK, e_items_lst, e_items_tup, e_items_str, e_iZp, e_iZpK, e_zp_l, e_zp_t, e_iRv, e_iRvK, e_rv_l, e_rv_t, e_iRg1, e_iRg1K, e_rg1, e_iRg2, e_iRg2K, e_rg2, e_for, e_forK, e_for_nil, e_for_cons, e_forG, e_forS_nx, e_forS_cnt, e_forS_brk, e_forS_ret, e_forS_exc, e_gVar, e_gvB, e_gTup, e_gTupW, e_gCons, e_gNil, d_add_i, d_add_s, d_add_l, d_add_t, d_mul_i, d_mul_s, d_mul_l, d_fdiv, d_mod, d_pow, d_neg, d_iI, d_ord_i, d_ord_s, d_eq_i, d_eq_s, d_ne_i, d_ne_s, d_len_l, d_len_t, d_abs, d_gcd, d_max2, d_min2, d_tup_l, d_tup_t, d_ix_l, d_ix_t, d_atR, at_0, at_1, at_2, ixn_0, ixn_1, ixn_2, e_run, e_fin_ret, e_fin_nx, e_fin_exc, e_outR, e_outX, e_out_none, e_out_some, e_ioS, e_arg_none, e_arg_nil, e_arg_0, e_arg_s, e_ioD, e_call, e_calK1, e_calK2, e_calO_ret, e_calO_exc, e_callP, e_cpK, e_cpD, e_cpC_s, e_cpC_x, e_cpC_o, e_cpS, e_cpX, e_gnil, e_gv, e_gvK1, e_gvK2, e_gs, e_gsB, e_gsK, e_go, e_goK, e_ads_nil, e_ads_cons, e_adC, e_adC2, e_adD_v, e_adD_s, e_adD_o, e_adO, e_pi, e_piK, e_sl, e_slK1, e_slK2, e_slK3, e_slO, e_part_n, e_part_i, d_slice_l, d_slice_t, e_sl3, e_s3K1, e_s3K2, e_s3K3, e_s3K4, e_s3O, e_lc, e_lcK, e_lcB, e_lcR, e_yes, e_okW2, e_okWS_no, e_okWS_sh, eq_self, log_7, List.length_cons, List.length_nil, List.map_cons, List.map_nil, List.cons_append, List.nil_append, List.replicate_succ, List.replicate_zero, List.append_nil, List.getElem?_cons_zero, List.getElem?_cons_succ, List.getElem?_nil, List.set_cons_zero, List.set_cons_succ, Option.bind_some, Option.bind_none, Option.isSome_some, Nat.reduceAdd, Nat.reduceSub, Nat.reduceLT, Nat.reduceLeDiff, Nat.reduceEqDiff, Int.reduceAdd, Int.reduceMul, Int.reduceNeg, Int.reducePow, Int.reduceLT, Int.reduceLE, and_self, and_true, true_and, if_true, if_false, ↓reduceIte, Bool.not_true, Bool.not_false, decide_true, decide_false, decide_eq_true_eq, List.all_cons, List.all_nil, Bool.and_true, Bool.true_and, Bool.and_self, wipeE, adPl, Int.reduceToNat, rng_5, abs_10, len_ints, z1, le1, le2, le3, rK, d1, d2, d4, d5, rG]
  have dt0 : f_divisor_of [.tup [.int (g : Int)]] = .ret (.sh (.int 0)) [] := divisor_t g []
  obtain ⟨v9, p9, e9, a9, b9, h9⟩ := great_p h8 (by omega)
  obtain ⟨w10, s10, p10, e10, i10, s10', h10⟩ := sign_p h9 (by omega)
  obtain ⟨t, ht⟩ : ∃ t, t = v9 * s10 := ⟨_, rfl⟩
  have tb : -(10 ^ 30) ≤ t ∧ t ≤ 10 ^ 30 := by
    rcases s10' with rfl | rfl <;> omega
  have dA : f_added [.lst [.lst (.int c :: intsL ns)], .lst [.int t], .int (ns.length : Int)] = .ret (.sh (.tup (intsL (t * c :: ns.map fun n => t * n)))) [] :=
    added_p (c :: ns) t ns.length rfl (by omega) (by omega) fun y hy => by
      rcases List.mem_cons.mp hy with rfl | hy
      · omega
      · have := hns y hy
        omega
  have dB : f_divisor_of [.tup (intsL (t * c :: ns.map fun n => t * n))] = .ret (.sh (.int ((g : Int) * (t.natAbs : Int)))) [] := by
    have e := divisor_t (t * c) (ns.map fun n => t * n)
    have sc := gf_scale t ns 0
    rw [Nat.mul_zero, hG] at sc
    rw [sc, Nat.mul_comm, Int.natCast_mul] at e
    exact e
  have gt := mul_le_big (i := (g : Int)) (j := (t.natAbs : Int)) (a := 10 ^ 30) (b := 10 ^ 30) (by omega) (by omega) (by omega) (by omega)
  obtain ⟨ST, rT⟩ := repr_int (i := (g : Int) * (t.natAbs : Int)) (by omega) (by omega)
  have last : ∀ s, finS (some 0) (tailR
        [SV.io p8, SV.sh (D.int b), SV.sh (D.lst (intsL ns)), SV.sh (D.int c), SV.sh (D.int (g : Int)), s, SV.sh (D.lst (intsL (ns ++ cl))), SV.sh (D.lst (intsL ag)),
          SV.sh (D.lst [D.lst (D.int c :: intsL ns), D.tup (D.int c :: intsL ns), D.lst (D.int (c / 7) :: intsL ns), D.lst (D.int 0 :: intsL (ns ++ cl)), D.lst (D.int (g : Int) :: intsL ag)]),
          SV.sh (D.str SK), SV.sh (D.lst (D.int (g : Int) :: intsL ag)), SV.no, SV.no]) = .ret (.sh (.bl true)) p10 := fun s => by
    rw [tailR_eq]
    simp only [e_iEn, e_iEnK, e_enD, e_iZq, e_iZqK, e_zq_ll, e_zq_tt, e_zq_lt, e_zq_tl, e_asgT, e_asgTK, e_asgO, e_call0, List.reverse_cons, List.reverse_nil, e_cmpV, e_cvH, e_cvB, e_cvO, e_cvZ, e_join, e_jK1, e_jK2, e_len_s, e_whK_f, e_whK_t, e_whS, restE, List.getD_cons_zero, List.getD_cons_succ, List.getD_nil, d_pow_6, d_pow_12, d_pow_18, d_pow_30, e_OE_bind_ok, e_OE_bind_exc, e_OE_bindT_ok, e_OE_bindT_exc, e_OE_bindA_ok, e_OE_bindA_exc, e_OE_bindS_ok, e_OE_bindS_exc, e_OE_bindI_ok, e_OE_bindI_exc, e_OE_bindG_ok, e_OE_bindG_exc, e_OT_bind_ok, e_OT_bind_exc, e_OT_bindE_ok, e_OT_bindE_exc, e_OT_bindS_ok, e_OT_bindS_exc, e_OA_bind_ok, e_OA_bind_exc, e_OA_bindE_ok, e_OA_bindE_exc, e_OA_bindI_ok, e_OA_bindI_exc, e_OI_bindE_ok, e_OI_bindE_exc, e_OI_bindS_ok, e_OI_bindS_exc, e_OG_bind_ok, e_OG_bind_exc, e_OG_bindE_ok, e_OG_bindE_exc, e_seq_nx, e_seq_ret, e_seq_brk, e_seq_cnt, e_seq_exc, e_var, e_varK_sh, e_varK_ow, e_mv, e_mvK_sh, e_mvK_ow, e_c, e_okO, e_op2, e_opK1, e_opK2, e_un, e_unK, e_and, e_or, e_not, e_tru, e_andK_t, e_andK_f, e_orK_t, e_orK_f, e_notK, e_truK, e_if, e_tand, e_tor, e_tnot, e_sif, e_ifK_t, e_ifK_f, e_sifK_t, e_sifK_f, e_tandK_t, e_tandK_f, e_torK_t, e_torK_f, e_tnotK, e_nil, e_cons, e_consK1, e_consK2, e_tup, e_lst, e_cb, e_tupK, e_lstK, e_cbK, e_chain, e_chK1, e_chK2, e_chK3, e_chB_t, e_chB_f, e_ixV, e_ixH, e_ixVK, e_ixE_own, e_ixE_sh, e_atO, e_ownAt, e_ownS_ow, e_ownS_io, e_ownS_lst, e_ownS_tup, e_ownS_str, e_ownS_int, e_lenV, e_lenK_own, e_lenK_sh, e_here_no, e_noIo_no, e_Own_no, e_here_sh, e_noIo_sh, e_Own_sh, e_here_ow, e_noIo_ow, e_Own_ow, e_here_io, e_noIo_io, e_Own_io, e_fz_sh, e_fz_ow, e_sv_sh, e_sv_ow, e_ret, e_retK, e_retN, e_expr, e_exprK, e_pass, e_break, e_cont, e_asg, e_asgK, e_asgB, e_sseq, e_set, e_setK1, e_setB, e_setK2, e_setO, e_setJ, e_nxO, e_setOwn, e_soK_ow, e_soK_io, e_app, e_appB, e_appK, e_appO, e_par, e_parA, e_parK, e_okI, e_iVal, e_iValK, e_items_lst, e_items_tup, e_items_str, e_iZp, e_iZpK, e_zp_l, e_zp_t, e_iRv, e_iRvK, e_rv_l, e_rv_t, e_iRg1, e_iRg1K, e_rg1, e_iRg2, e_iRg2K, e_rg2, e_for, e_forK, e_for_nil, e_for_cons, e_forG, e_forS_nx, e_forS_cnt, e_forS_brk, e_forS_ret, e_forS_exc, e_gVar, e_gvB, e_gTup, e_gTupW, e_gCons, e_gNil, d_add_i, d_add_s, d_add_l, d_add_t, d_mul_i, d_mul_s, d_mul_l, d_fdiv, d_mod, d_pow, d_neg, d_iI, d_ord_i, d_ord_s, d_eq_i, d_eq_s, d_ne_i, d_ne_s, d_len_l, d_len_t, d_abs, d_gcd, d_max2, d_min2, d_tup_l, d_tup_t, d_ix_l, d_ix_t, d_atR, at_0, at_1, at_2, ixn_0, ixn_1, ixn_2, e_run, e_fin_ret, e_fin_nx, e_fin_exc, e_outR, e_outX, e_out_none, e_out_some, e_ioS, e_arg_none, e_arg_nil, e_arg_0, e_arg_s, e_ioD, e_call, e_calK1, e_calK2, e_calO_ret, e_calO_exc, e_callP, e_cpK, e_cpD, e_cpC_s, e_cpC_x, e_cpC_o, e_cpS, e_cpX, e_gnil, e_gv, e_gvK1, e_gvK2, e_gs, e_gsB, e_gsK, e_go, e_goK, e_ads_nil, e_ads_cons, e_adC, e_adC2, e_adD_v, e_adD_s, e_adD_o, e_adO, e_pi, e_piK, e_sl, e_slK1, e_slK2, e_slK3, e_slO, e_part_n, e_part_i, d_slice_l, d_slice_t, e_sl3, e_s3K1, e_s3K2, e_s3K3, e_s3K4, e_s3O, e_lc, e_lcK, e_lcB, e_lcR, e_yes, e_okW2, e_okWS_no, e_okWS_sh, eq_self, log_7, List.length_cons, List.length_nil, List.map_cons, List.map_nil, List.cons_append, List.nil_append, List.replicate_succ, List.replicate_zero, List.append_nil, List.getElem?_cons_zero, List.getElem?_cons_succ, List.getElem?_nil, List.set_cons_zero, List.set_cons_succ, Option.bind_some, Option.bind_none, Option.isSome_some, Nat.reduceAdd, Nat.reduceSub, Nat.reduceLT, Nat.reduceLeDiff, Nat.reduceEqDiff, Int.reduceAdd, Int.reduceMul, Int.reduceNeg, Int.reducePow, Int.reduceLT, Int.reduceLE, and_self, and_true, true_and, if_true, if_false, ↓reduceIte, Bool.not_true, Bool.not_false, decide_true, decide_false, decide_eq_true_eq, List.all_cons, List.all_nil, Bool.and_true, Bool.true_and, Bool.and_self, wipeE, adPl, Int.reduceToNat, rng_5, abs_10, e9, e10, i10]
    rw [if_pos (mul_ok (by omega) (by omega) (by rcases s10' with rfl | rfl <;> omega) (by rcases s10' with rfl | rfl <;> omega)), ← ht]
    simp only [e_iEn, e_iEnK, e_enD, e_iZq, e_iZqK, e_zq_ll, e_zq_tt, e_zq_lt, e_zq_tl, e_asgT, e_asgTK, e_asgO, e_call0, List.reverse_cons, List.reverse_nil, e_cmpV, e_cvH, e_cvB, e_cvO, e_cvZ, e_join, e_jK1, e_jK2, e_len_s, e_whK_f, e_whK_t, e_whS, restE, List.getD_cons_zero, List.getD_cons_succ, List.getD_nil, d_pow_6, d_pow_12, d_pow_18, d_pow_30, e_OE_bind_ok, e_OE_bind_exc, e_OE_bindT_ok, e_OE_bindT_exc, e_OE_bindA_ok, e_OE_bindA_exc, e_OE_bindS_ok, e_OE_bindS_exc, e_OE_bindI_ok, e_OE_bindI_exc, e_OE_bindG_ok, e_OE_bindG_exc, e_OT_bind_ok, e_OT_bind_exc, e_OT_bindE_ok, e_OT_bindE_exc, e_OT_bindS_ok, e_OT_bindS_exc, e_OA_bind_ok, e_OA_bind_exc, e_OA_bindE_ok, e_OA_bindE_exc, e_OA_bindI_ok, e_OA_bindI_exc, e_OI_bindE_ok, e_OI_bindE_exc, e_OI_bindS_ok, e_OI_bindS_exc, e_OG_bind_ok, e_OG_bind_exc, e_OG_bindE_ok, e_OG_bindE_exc, e_seq_nx, e_seq_ret, e_seq_brk, e_seq_cnt, e_seq_exc, e_var, e_varK_sh, e_varK_ow, e_mv, e_mvK_sh, e_mvK_ow, e_c, e_okO, e_op2, e_opK1, e_opK2, e_un, e_unK, e_and, e_or, e_not, e_tru, e_andK_t, e_andK_f, e_orK_t, e_orK_f, e_notK, e_truK, e_if, e_tand, e_tor, e_tnot, e_sif, e_ifK_t, e_ifK_f, e_sifK_t, e_sifK_f, e_tandK_t, e_tandK_f, e_torK_t, e_torK_f, e_tnotK, e_nil, e_cons, e_consK1, e_consK2, e_tup, e_lst, e_cb, e_tupK, e_lstK, e_cbK, e_chain, e_chK1, e_chK2, e_chK3, e_chB_t, e_chB_f, e_ixV, e_ixH, e_ixVK, e_ixE_own, e_ixE_sh, e_atO, e_ownAt, e_ownS_ow, e_ownS_io, e_ownS_lst, e_ownS_tup, e_ownS_str, e_ownS_int, e_lenV, e_lenK_own, e_lenK_sh, e_here_no, e_noIo_no, e_Own_no, e_here_sh, e_noIo_sh, e_Own_sh, e_here_ow, e_noIo_ow, e_Own_ow, e_here_io, e_noIo_io, e_Own_io, e_fz_sh, e_fz_ow, e_sv_sh, e_sv_ow, e_ret, e_retK, e_retN, e_expr, e_exprK, e_pass, e_break, e_cont, e_asg, e_asgK, e_asgB, e_sseq, e_set, e_setK1, e_setB, e_setK2, e_setO, e_setJ, e_nxO, e_setOwn, e_soK_ow, e_soK_io, e_app, e_appB, e_appK, e_appO, e_par, e_parA, e_parK, e_okI, e_iVal, e_iValK, e_items_lst, e_items_tup, e_items_str, e_iZp, e_iZpK, e_zp_l, e_zp_t, e_iRv, e_iRvK, e_rv_l, e_rv_t, e_iRg1, e_iRg1K, e_rg1, e_iRg2, e_iRg2K, e_rg2, e_for, e_forK, e_for_nil, e_for_cons, e_forG, e_forS_nx, e_forS_cnt, e_forS_brk, e_forS_ret, e_forS_exc, e_gVar, e_gvB, e_gTup, e_gTupW, e_gCons, e_gNil, d_add_i, d_add_s, d_add_l, d_add_t, d_mul_i, d_mul_s, d_mul_l, d_fdiv, d_mod, d_pow, d_neg, d_iI, d_ord_i, d_ord_s, d_eq_i, d_eq_s, d_ne_i, d_ne_s, d_len_l, d_len_t, d_abs, d_gcd, d_max2, d_min2, d_tup_l, d_tup_t, d_ix_l, d_ix_t, d_atR, at_0, at_1, at_2, ixn_0, ixn_1, ixn_2, e_run, e_fin_ret, e_fin_nx, e_fin_exc, e_outR, e_outX, e_out_none, e_out_some, e_ioS, e_arg_none, e_arg_nil, e_arg_0, e_arg_s, e_ioD, e_call, e_calK1, e_calK2, e_calO_ret, e_calO_exc, e_callP, e_cpK, e_cpD, e_cpC_s, e_cpC_x, e_cpC_o, e_cpS, e_cpX, e_gnil, e_gv, e_gvK1, e_gvK2, e_gs, e_gsB, e_gsK, e_go, e_goK, e_ads_nil, e_ads_cons, e_adC, e_adC2, e_adD_v, e_adD_s, e_adD_o, e_adO, e_pi, e_piK, e_sl, e_slK1, e_slK2, e_slK3, e_slO, e_part_n, e_part_i, d_slice_l, d_slice_t, e_sl3, e_s3K1, e_s3K2, e_s3K3, e_s3K4, e_s3O, e_lc, e_lcK, e_lcB, e_lcR, e_yes, e_okW2, e_okWS_no, e_okWS_sh, eq_self, log_7, List.length_cons, List.length_nil, List.map_cons, List.map_nil, List.cons_append, List.nil_append, List.replicate_succ, List.replicate_zero, List.append_nil, List.getElem?_cons_zero, List.getElem?_cons_succ, List.getElem?_nil, List.set_cons_zero, List.set_cons_succ, Option.bind_some, Option.bind_none, Option.isSome_some, Nat.reduceAdd, Nat.reduceSub, Nat.reduceLT, Nat.reduceLeDiff, Nat.reduceEqDiff, Int.reduceAdd, Int.reduceMul, Int.reduceNeg, Int.reducePow, Int.reduceLT, Int.reduceLE, and_self, and_true, true_and, if_true, if_false, ↓reduceIte, Bool.not_true, Bool.not_false, decide_true, decide_false, decide_eq_true_eq, List.all_cons, List.all_nil, Bool.and_true, Bool.true_and, Bool.and_self, wipeE, adPl, Int.reduceToNat, rng_5, abs_10, len_ints, z1, le1, dA, dB, rT]
    rw [if_pos (mul_ok (by omega) (by omega) (by omega) (by omega))]
    simp only [e_iEn, e_iEnK, e_enD, e_iZq, e_iZqK, e_zq_ll, e_zq_tt, e_zq_lt, e_zq_tl, e_asgT, e_asgTK, e_asgO, e_call0, List.reverse_cons, List.reverse_nil, e_cmpV, e_cvH, e_cvB, e_cvO, e_cvZ, e_join, e_jK1, e_jK2, e_len_s, e_whK_f, e_whK_t, e_whS, restE, List.getD_cons_zero, List.getD_cons_succ, List.getD_nil, d_pow_6, d_pow_12, d_pow_18, d_pow_30, e_OE_bind_ok, e_OE_bind_exc, e_OE_bindT_ok, e_OE_bindT_exc, e_OE_bindA_ok, e_OE_bindA_exc, e_OE_bindS_ok, e_OE_bindS_exc, e_OE_bindI_ok, e_OE_bindI_exc, e_OE_bindG_ok, e_OE_bindG_exc, e_OT_bind_ok, e_OT_bind_exc, e_OT_bindE_ok, e_OT_bindE_exc, e_OT_bindS_ok, e_OT_bindS_exc, e_OA_bind_ok, e_OA_bind_exc, e_OA_bindE_ok, e_OA_bindE_exc, e_OA_bindI_ok, e_OA_bindI_exc, e_OI_bindE_ok, e_OI_bindE_exc, e_OI_bindS_ok, e_OI_bindS_exc, e_OG_bind_ok, e_OG_bind_exc, e_OG_bindE_ok, e_OG_bindE_exc, e_seq_nx, e_seq_ret, e_seq_brk, e_seq_cnt, e_seq_exc, e_var, e_varK_sh, e_varK_ow, e_mv, e_mvK_sh, e_mvK_ow, e_c, e_okO, e_op2, e_opK1, e_opK2, e_un, e_unK, e_and, e_or, e_not, e_tru, e_andK_t, e_andK_f, e_orK_t, e_orK_f, e_notK, e_truK, e_if, e_tand, e_tor, e_tnot, e_sif, e_ifK_t, e_ifK_f, e_sifK_t, e_sifK_f, e_tandK_t, e_tandK_f, e_torK_t, e_torK_f, e_tnotK, e_nil, e_cons, e_consK1, e_consK2, e_tup, e_lst, e_cb, e_tupK, e_lstK, e_cbK, e_chain, e_chK1, e_chK2, e_chK3, e_chB_t, e_chB_f, e_ixV, e_ixH, e_ixVK, e_ixE_own, e_ixE_sh, e_atO, e_ownAt, e_ownS_ow, e_ownS_io, e_ownS_lst, e_ownS_tup, e_ownS_str, e_ownS_int, e_lenV, e_lenK_own, e_lenK_sh, e_here_no, e_noIo_no, e_Own_no, e_here_sh, e_noIo_sh, e_Own_sh, e_here_ow, e_noIo_ow, e_Own_ow, e_here_io, e_noIo_io, e_Own_io, e_fz_sh, e_fz_ow, e_sv_sh, e_sv_ow, e_ret, e_retK, e_retN, e_expr, e_exprK, e_pass, e_break, e_cont, e_asg, e_asgK, e_asgB, e_sseq, e_set, e_setK1, e_setB, e_setK2, e_setO, e_setJ, e_nxO, e_setOwn, e_soK_ow, e_soK_io, e_app, e_appB, e_appK, e_appO, e_par, e_parA, e_parK, e_okI, e_iVal, e_iValK, e_items_lst, e_items_tup, e_items_str, e_iZp, e_iZpK, e_zp_l, e_zp_t, e_iRv, e_iRvK, e_rv_l, e_rv_t, e_iRg1, e_iRg1K, e_rg1, e_iRg2, e_iRg2K, e_rg2, e_for, e_forK, e_for_nil, e_for_cons, e_forG, e_forS_nx, e_forS_cnt, e_forS_brk, e_forS_ret, e_forS_exc, e_gVar, e_gvB, e_gTup, e_gTupW, e_gCons, e_gNil, d_add_i, d_add_s, d_add_l, d_add_t, d_mul_i, d_mul_s, d_mul_l, d_fdiv, d_mod, d_pow, d_neg, d_iI, d_ord_i, d_ord_s, d_eq_i, d_eq_s, d_ne_i, d_ne_s, d_len_l, d_len_t, d_abs, d_gcd, d_max2, d_min2, d_tup_l, d_tup_t, d_ix_l, d_ix_t, d_atR, at_0, at_1, at_2, ixn_0, ixn_1, ixn_2, e_run, e_fin_ret, e_fin_nx, e_fin_exc, e_outR, e_outX, e_out_none, e_out_some, e_ioS, e_arg_none, e_arg_nil, e_arg_0, e_arg_s, e_ioD, e_call, e_calK1, e_calK2, e_calO_ret, e_calO_exc, e_callP, e_cpK, e_cpD, e_cpC_s, e_cpC_x, e_cpC_o, e_cpS, e_cpX, e_gnil, e_gv, e_gvK1, e_gvK2, e_gs, e_gsB, e_gsK, e_go, e_goK, e_ads_nil, e_ads_cons, e_adC, e_adC2, e_adD_v, e_adD_s, e_adD_o, e_adO, e_pi, e_piK, e_sl, e_slK1, e_slK2, e_slK3, e_slO, e_part_n, e_part_i, d_slice_l, d_slice_t, e_sl3, e_s3K1, e_s3K2, e_s3K3, e_s3K4, e_s3O, e_lc, e_lcK, e_lcB, e_lcR, e_yes, e_okW2, e_okWS_no, e_okWS_sh, eq_self, log_7, List.length_cons, List.length_nil, List.map_cons, List.map_nil, List.cons_append, List.nil_append, List.replicate_succ, List.replicate_zero, List.append_nil, List.getElem?_cons_zero, List.getElem?_cons_succ, List.getElem?_nil, List.set_cons_zero, List.set_cons_succ, Option.bind_some, Option.bind_none, Option.isSome_some, Nat.reduceAdd, Nat.reduceSub, Nat.reduceLT, Nat.reduceLeDiff, Nat.reduceEqDiff, Int.reduceAdd, Int.reduceMul, Int.reduceNeg, Int.reducePow, Int.reduceLT, Int.reduceLE, and_self, and_true, true_and, if_true, if_false, ↓reduceIte, Bool.not_true, Bool.not_false, decide_true, decide_false, decide_eq_true_eq, List.all_cons, List.all_nil, Bool.and_true, Bool.true_and, Bool.and_self, wipeE, adPl, Int.reduceToNat, rng_5, abs_10, rT, rK]
  refine ⟨p10, ?_⟩
  rw [← tailR_eq]
  by_cases g0 : 0 < (g : Int)
  · have dv : f_divisor_of [.lst (.int 1 :: intsL (ns.map fun i => i / (g : Int)))] = .ret (.sh (.int 1)) [] := by
      rw [divisor_l]
      have := gf_div (ns := ns) (by omega)
      rw [hG] at this
      rw [this]
      rfl
    have dg : 0 < (g : Int) ∧ (Int.natAbs (g : Int)).log2 < 9000 := div_ok g0 (by omega)
    simp only [e_iEn, e_iEnK, e_enD, e_iZq, e_iZqK, e_zq_ll, e_zq_tt, e_zq_lt, e_zq_tl, e_asgT, e_asgTK, e_asgO, e_call0, List.reverse_cons, List.reverse_nil, e_cmpV, e_cvH, e_cvB, e_cvO, e_cvZ, e_join, e_jK1, e_jK2, e_len_s, e_whK_f, e_whK_t, e_whS, restE, List.getD_cons_zero, List.getD_cons_succ, List.getD_nil, d_pow_6, d_pow_12, d_pow_18, d_pow_30, e_OE_bind_ok, e_OE_bind_exc, e_OE_bindT_ok, e_OE_bindT_exc, e_OE_bindA_ok, e_OE_bindA_exc, e_OE_bindS_ok, e_OE_bindS_exc, e_OE_bindI_ok, e_OE_bindI_exc, e_OE_bindG_ok, e_OE_bindG_exc, e_OT_bind_ok, e_OT_bind_exc, e_OT_bindE_ok, e_OT_bindE_exc, e_OT_bindS_ok, e_OT_bindS_exc, e_OA_bind_ok, e_OA_bind_exc, e_OA_bindE_ok, e_OA_bindE_exc, e_OA_bindI_ok, e_OA_bindI_exc, e_OI_bindE_ok, e_OI_bindE_exc, e_OI_bindS_ok, e_OI_bindS_exc, e_OG_bind_ok, e_OG_bind_exc, e_OG_bindE_ok, e_OG_bindE_exc, e_seq_nx, e_seq_ret, e_seq_brk, e_seq_cnt, e_seq_exc, e_var, e_varK_sh, e_varK_ow, e_mv, e_mvK_sh, e_mvK_ow, e_c, e_okO, e_op2, e_opK1, e_opK2, e_un, e_unK, e_and, e_or, e_not, e_tru, e_andK_t, e_andK_f, e_orK_t, e_orK_f, e_notK, e_truK, e_if, e_tand, e_tor, e_tnot, e_sif, e_ifK_t, e_ifK_f, e_sifK_t, e_sifK_f, e_tandK_t, e_tandK_f, e_torK_t, e_torK_f, e_tnotK, e_nil, e_cons, e_consK1, e_consK2, e_tup, e_lst, e_cb, e_tupK, e_lstK, e_cbK, e_chain, e_chK1, e_chK2, e_chK3, e_chB_t, e_chB_f, e_ixV, e_ixH, e_ixVK, e_ixE_own, e_ixE_sh, e_atO, e_ownAt, e_ownS_ow, e_ownS_io, e_ownS_lst, e_ownS_tup, e_ownS_str, e_ownS_int, e_lenV, e_lenK_own, e_lenK_sh, e_here_no, e_noIo_no, e_Own_no, e_here_sh, e_noIo_sh, e_Own_sh, e_here_ow, e_noIo_ow, e_Own_ow, e_here_io, e_noIo_io, e_Own_io, e_fz_sh, e_fz_ow, e_sv_sh, e_sv_ow, e_ret, e_retK, e_retN, e_expr, e_exprK, e_pass, e_break, e_cont, e_asg, e_asgK, e_asgB, e_sseq, e_set, e_setK1, e_setB, e_setK2, e_setO, e_setJ, e_nxO, e_setOwn, e_soK_ow, e_soK_io, e_app, e_appB, e_appK, e_appO, e_par, e_parA, e_parK, e_okI, e_iVal, e_iValK, e_items_lst, e_items_tup, e_items_str, e_iZp, e_iZpK, e_zp_l, e_zp_t, e_iRv, e_iRvK, e_rv_l, e_rv_t, e_iRg1, e_iRg1K, e_rg1, e_iRg2, e_iRg2K, e_rg2, e_for, e_forK, e_for_nil, e_for_cons, e_forG, e_forS_nx, e_forS_cnt, e_forS_brk, e_forS_ret, e_forS_exc, e_gVar, e_gvB, e_gTup, e_gTupW, e_gCons, e_gNil, d_add_i, d_add_s, d_add_l, d_add_t, d_mul_i, d_mul_s, d_mul_l, d_fdiv, d_mod, d_pow, d_neg, d_iI, d_ord_i, d_ord_s, d_eq_i, d_eq_s, d_ne_i, d_ne_s, d_len_l, d_len_t, d_abs, d_gcd, d_max2, d_min2, d_tup_l, d_tup_t, d_ix_l, d_ix_t, d_atR, at_0, at_1, at_2, ixn_0, ixn_1, ixn_2, e_run, e_fin_ret, e_fin_nx, e_fin_exc, e_outR, e_outX, e_out_none, e_out_some, e_ioS, e_arg_none, e_arg_nil, e_arg_0, e_arg_s, e_ioD, e_call, e_calK1, e_calK2, e_calO_ret, e_calO_exc, e_callP, e_cpK, e_cpD, e_cpC_s, e_cpC_x, e_cpC_o, e_cpS, e_cpX, e_gnil, e_gv, e_gvK1, e_gvK2, e_gs, e_gsB, e_gsK, e_go, e_goK, e_ads_nil, e_ads_cons, e_adC, e_adC2, e_adD_v, e_adD_s, e_adD_o, e_adO, e_pi, e_piK, e_sl, e_slK1, e_slK2, e_slK3, e_slO, e_part_n, e_part_i, d_slice_l, d_slice_t, e_sl3, e_s3K1, e_s3K2, e_s3K3, e_s3K4, e_s3O, e_lc, e_lcK, e_lcB, e_lcR, e_yes, e_okW2, e_okWS_no, e_okWS_sh, eq_self, log_7, List.length_cons, List.length_nil, List.map_cons, List.map_nil, List.cons_append, List.nil_append, List.replicate_succ, List.replicate_zero, List.append_nil, List.getElem?_cons_zero, List.getElem?_cons_succ, List.getElem?_nil, List.set_cons_zero, List.set_cons_succ, Option.bind_some, Option.bind_none, Option.isSome_some, Nat.reduceAdd, Nat.reduceSub, Nat.reduceLT, Nat.reduceLeDiff, Nat.reduceEqDiff, Int.reduceAdd, Int.reduceMul, Int.reduceNeg, Int.reducePow, Int.reduceLT, Int.reduceLE, and_self, and_true, true_and, if_true, if_false, ↓reduceIte, Bool.not_true, Bool.not_false, decide_true, decide_false, decide_eq_true_eq, List.all_cons, List.all_nil, Bool.and_true, Bool.true_and, Bool.and_self, wipeE, adPl, Int.reduceToNat, rng_5, abs_10, g0, o5, i5]
    rw [lcL_pure (f := gVar 5) (ot := oYes) (oe := oOp2 fdivF (oVar 5) (oVar 4)) (ws := [5]) _ (fun i => i / (g : Int)) ns [] (by rw [List.length_nil]; omega) (fun i _ => ⟨_, _, _, by (simp only [e_iEn, e_iEnK, e_enD, e_iZq, e_iZqK, e_zq_ll, e_zq_tt, e_zq_lt, e_zq_tl, e_asgT, e_asgTK, e_asgO, e_call0, List.reverse_cons, List.reverse_nil, e_cmpV, e_cvH, e_cvB, e_cvO, e_cvZ, e_join, e_jK1, e_jK2, e_len_s, e_whK_f, e_whK_t, e_whS, restE, List.getD_cons_zero, List.getD_cons_succ, List.getD_nil, d_pow_6, d_pow_12, d_pow_18, d_pow_30, e_OE_bind_ok, e_OE_bind_exc, e_OE_bindT_ok, e_OE_bindT_exc, e_OE_bindA_ok, e_OE_bindA_exc, e_OE_bindS_ok, e_OE_bindS_exc, e_OE_bindI_ok, e_OE_bindI_exc, e_OE_bindG_ok, e_OE_bindG_exc, e_OT_bind_ok, e_OT_bind_exc, e_OT_bindE_ok, e_OT_bindE_exc, e_OT_bindS_ok, e_OT_bindS_exc, e_OA_bind_ok, e_OA_bind_exc, e_OA_bindE_ok, e_OA_bindE_exc, e_OA_bindI_ok, e_OA_bindI_exc, e_OI_bindE_ok, e_OI_bindE_exc, e_OI_bindS_ok, e_OI_bindS_exc, e_OG_bind_ok, e_OG_bind_exc, e_OG_bindE_ok, e_OG_bindE_exc, e_seq_nx, e_seq_ret, e_seq_brk, e_seq_cnt, e_seq_exc, e_var, e_varK_sh, e_varK_ow, e_mv, e_mvK_sh, e_mvK_ow, e_c, e_okO, e_op2, e_opK1, e_opK2, e_un, e_unK, e_and, e_or, e_not, e_tru, e_andK_t, e_andK_f, e_orK_t, e_orK_f, e_notK, e_truK, e_if, e_tand, e_tor, e_tnot, e_sif, e_ifK_t, e_ifK_f, e_sifK_t, e_sifK_f, e_tandK_t, e_tandK_f, e_torK_t, e_torK_f, e_tnotK, e_nil, e_cons, e_consK1, e_consK2, e_tup, e_lst, e_cb, e_tupK, e_lstK, e_cbK, e_chain, e_chK1, e_chK2, e_chK3, e_chB_t, e_chB_f, e_ixV, e_ixH, e_ixVK, e_ixE_own, e_ixE_sh, e_atO, e_ownAt, e_ownS_ow, e_ownS_io, e_ownS_lst, e_ownS_tup, e_ownS_str, e_ownS_int, e_lenV, e_lenK_own, e_lenK_sh, e_here_no, e_noIo_no, e_Own_no, e_here_sh, e_noIo_sh, e_Own_sh, e_here_ow, e_noIo_ow, e_Own_ow, e_here_io, e_noIo_io, e_Own_io, e_fz_sh, e_fz_ow, e_sv_sh, e_sv_ow, e_ret, e_retK, e_retN, e_expr, e_exprK, e_pass, e_break, e_cont, e_asg, e_asgK, e_asgB, e_sseq, e_set, e_setK1, e_setB, e_setK2, e_setO, e_setJ, e_nxO, e_setOwn, e_soK_ow, e_soK_io, e_app, e_appB, e_appK, e_appO, e_par, e_parA, e_parK, e_okI, e_iVal, e_iValK, e_items_lst, e_items_tup, e_items_str, e_iZp, e_iZpK, e_zp_l, e_zp_t, e_iRv, e_iRvK, e_rv_l, e_rv_t, e_iRg1, e_iRg1K, e_rg1, e_iRg2, e_iRg2K, e_rg2, e_for, e_forK, e_for_nil, e_for_cons, e_forG, e_forS_nx, e_forS_cnt, e_forS_brk, e_forS_ret, e_forS_exc, e_gVar, e_gvB, e_gTup, e_gTupW, e_gCons, e_gNil, d_add_i, d_add_s, d_add_l, d_add_t, d_mul_i, d_mul_s, d_mul_l, d_fdiv, d_mod, d_pow, d_neg, d_iI, d_ord_i, d_ord_s, d_eq_i, d_eq_s, d_ne_i, d_ne_s, d_len_l, d_len_t, d_abs, d_gcd, d_max2, d_min2, d_tup_l, d_tup_t, d_ix_l, d_ix_t, d_atR, at_0, at_1, at_2, ixn_0, ixn_1, ixn_2, e_run, e_fin_ret, e_fin_nx, e_fin_exc, e_outR, e_outX, e_out_none, e_out_some, e_ioS, e_arg_none, e_arg_nil, e_arg_0, e_arg_s, e_ioD, e_call, e_calK1, e_calK2, e_calO_ret, e_calO_exc, e_callP, e_cpK, e_cpD, e_cpC_s, e_cpC_x, e_cpC_o, e_cpS, e_cpX, e_gnil, e_gv, e_gvK1, e_gvK2, e_gs, e_gsB, e_gsK, e_go, e_goK, e_ads_nil, e_ads_cons, e_adC, e_adC2, e_adD_v, e_adD_s, e_adD_o, e_adO, e_pi, e_piK, e_sl, e_slK1, e_slK2, e_slK3, e_slO, e_part_n, e_part_i, d_slice_l, d_slice_t, e_sl3, e_s3K1, e_s3K2, e_s3K3, e_s3K4, e_s3O, e_lc, e_lcK, e_lcB, e_lcR, e_yes, e_okW2, e_okWS_no, e_okWS_sh, eq_self, log_7, List.length_cons, List.length_nil, List.map_cons, List.map_nil, List.cons_append, List.nil_append, List.replicate_succ, List.replicate_zero, List.append_nil, List.getElem?_cons_zero, List.getElem?_cons_succ, List.getElem?_nil, List.set_cons_zero, List.set_cons_succ, Option.bind_some, Option.bind_none, Option.isSome_some, Nat.reduceAdd, Nat.reduceSub, Nat.reduceLT, Nat.reduceLeDiff, Nat.reduceEqDiff, Int.reduceAdd, Int.reduceMul, Int.reduceNeg, Int.reducePow, Int.reduceLT, Int.reduceLE, and_self, and_true, true_and, if_true, if_false, ↓reduceIte, Bool.not_true, Bool.not_false, decide_true, decide_false, decide_eq_true_eq, List.all_cons, List.all_nil, Bool.and_true, Bool.true_and, Bool.and_self, wipeE, adPl, Int.reduceToNat, rng_5, abs_10]) <;> rfl, by (simp only [e_iEn, e_iEnK, e_enD, e_iZq, e_iZqK, e_zq_ll, e_zq_tt, e_zq_lt, e_zq_tl, e_asgT, e_asgTK, e_asgO, e_call0, List.reverse_cons, List.reverse_nil, e_cmpV, e_cvH, e_cvB, e_cvO, e_cvZ, e_join, e_jK1, e_jK2, e_len_s, e_whK_f, e_whK_t, e_whS, restE, List.getD_cons_zero, List.getD_cons_succ, List.getD_nil, d_pow_6, d_pow_12, d_pow_18, d_pow_30, e_OE_bind_ok, e_OE_bind_exc, e_OE_bindT_ok, e_OE_bindT_exc, e_OE_bindA_ok, e_OE_bindA_exc, e_OE_bindS_ok, e_OE_bindS_exc, e_OE_bindI_ok, e_OE_bindI_exc, e_OE_bindG_ok, e_OE_bindG_exc, e_OT_bind_ok, e_OT_bind_exc, e_OT_bindE_ok, e_OT_bindE_exc, e_OT_bindS_ok, e_OT_bindS_exc, e_OA_bind_ok, e_OA_bind_exc, e_OA_bindE_ok, e_OA_bindE_exc, e_OA_bindI_ok, e_OA_bindI_exc, e_OI_bindE_ok, e_OI_bindE_exc, e_OI_bindS_ok, e_OI_bindS_exc, e_OG_bind_ok, e_OG_bind_exc, e_OG_bindE_ok, e_OG_bindE_exc, e_seq_nx, e_seq_ret, e_seq_brk, e_seq_cnt, e_seq_exc, e_var, e_varK_sh, e_varK_ow, e_mv, e_mvK_sh, e_mvK_ow, e_c, e_okO, e_op2, e_opK1, e_opK2, e_un, e_unK, e_and, e_or, e_not, e_tru, e_andK_t, e_andK_f, e_orK_t, e_orK_f, e_notK, e_truK, e_if, e_tand, e_tor, e_tnot, e_sif, e_ifK_t, e_ifK_f, e_sifK_t, e_sifK_f, e_tandK_t, e_tandK_f, e_torK_t, e_torK_f, e_tnotK, e_nil, e_cons, e_consK1, e_consK2, e_tup, e_lst, e_cb, e_tupK, e_lstK, e_cbK, e_chain, e_chK1, e_chK2, e_chK3, e_chB_t, e_chB_f, e_ixV, e_ixH, e_ixVK, e_ixE_own, e_ixE_sh, e_atO, e_ownAt, e_ownS_ow, e_ownS_io, e_ownS_lst, e_ownS_tup, e_ownS_str, e_ownS_int, e_lenV, e_lenK_own, e_lenK_sh, e_here_no, e_noIo_no, e_Own_no, e_here_sh, e_noIo_sh, e_Own_sh, e_here_ow, e_noIo_ow, e_Own_ow, e_here_io, e_noIo_io, e_Own_io, e_fz_sh, e_fz_ow, e_sv_sh, e_sv_ow, e_ret, e_retK, e_retN, e_expr, e_exprK, e_pass, e_break, e_cont, e_asg, e_asgK, e_asgB, e_sseq, e_set, e_setK1, e_setB, e_setK2, e_setO, e_setJ, e_nxO, e_setOwn, e_soK_ow, e_soK_io, e_app, e_appB, e_appK, e_appO, e_par, e_parA, e_parK, e_okI, e_iVal, e_iValK, e_items_lst, e_items_tup, e_items_str, e_iZp, e_iZpK, e_zp_l, e_zp_t, e_iRv, e_iRvK, e_rv_l, e_rv_t, e_iRg1, e_iRg1K, e_rg1, e_iRg2, e_iRg2K, e_rg2, e_for, e_forK, e_for_nil, e_for_cons, e_forG, e_forS_nx, e_forS_cnt, e_forS_brk, e_forS_ret, e_forS_exc, e_gVar, e_gvB, e_gTup, e_gTupW, e_gCons, e_gNil, d_add_i, d_add_s, d_add_l, d_add_t, d_mul_i, d_mul_s, d_mul_l, d_fdiv, d_mod, d_pow, d_neg, d_iI, d_ord_i, d_ord_s, d_eq_i, d_eq_s, d_ne_i, d_ne_s, d_len_l, d_len_t, d_abs, d_gcd, d_max2, d_min2, d_tup_l, d_tup_t, d_ix_l, d_ix_t, d_atR, at_0, at_1, at_2, ixn_0, ixn_1, ixn_2, e_run, e_fin_ret, e_fin_nx, e_fin_exc, e_outR, e_outX, e_out_none, e_out_some, e_ioS, e_arg_none, e_arg_nil, e_arg_0, e_arg_s, e_ioD, e_call, e_calK1, e_calK2, e_calO_ret, e_calO_exc, e_callP, e_cpK, e_cpD, e_cpC_s, e_cpC_x, e_cpC_o, e_cpS, e_cpX, e_gnil, e_gv, e_gvK1, e_gvK2, e_gs, e_gsB, e_gsK, e_go, e_goK, e_ads_nil, e_ads_cons, e_adC, e_adC2, e_adD_v, e_adD_s, e_adD_o, e_adO, e_pi, e_piK, e_sl, e_slK1, e_slK2, e_slK3, e_slO, e_part_n, e_part_i, d_slice_l, d_slice_t, e_sl3, e_s3K1, e_s3K2, e_s3K3, e_s3K4, e_s3O, e_lc, e_lcK, e_lcB, e_lcR, e_yes, e_okW2, e_okWS_no, e_okWS_sh, eq_self, log_7, List.length_cons, List.length_nil, List.map_cons, List.map_nil, List.cons_append, List.nil_append, List.replicate_succ, List.replicate_zero, List.append_nil, List.getElem?_cons_zero, List.getElem?_cons_succ, List.getElem?_nil, List.set_cons_zero, List.set_cons_succ, Option.bind_some, Option.bind_none, Option.isSome_some, Nat.reduceAdd, Nat.reduceSub, Nat.reduceLT, Nat.reduceLeDiff, Nat.reduceEqDiff, Int.reduceAdd, Int.reduceMul, Int.reduceNeg, Int.reducePow, Int.reduceLT, Int.reduceLE, and_self, and_true, true_and, if_true, if_false, ↓reduceIte, Bool.not_true, Bool.not_false, decide_true, decide_false, decide_eq_true_eq, List.all_cons, List.all_nil, Bool.and_true, Bool.true_and, Bool.and_self, wipeE, adPl, Int.reduceToNat, rng_5, abs_10]) <;> rfl, by (simp only [e_iEn, e_iEnK, e_enD, e_iZq, e_iZqK, e_zq_ll, e_zq_tt, e_zq_lt, e_zq_tl, e_asgT, e_asgTK, e_asgO, e_call0, List.reverse_cons, List.reverse_nil, e_cmpV, e_cvH, e_cvB, e_cvO, e_cvZ, e_join, e_jK1, e_jK2, e_len_s, e_whK_f, e_whK_t, e_whS, restE, List.getD_cons_zero, List.getD_cons_succ, List.getD_nil, d_pow_6, d_pow_12, d_pow_18, d_pow_30, e_OE_bind_ok, e_OE_bind_exc, e_OE_bindT_ok, e_OE_bindT_exc, e_OE_bindA_ok, e_OE_bindA_exc, e_OE_bindS_ok, e_OE_bindS_exc, e_OE_bindI_ok, e_OE_bindI_exc, e_OE_bindG_ok, e_OE_bindG_exc, e_OT_bind_ok, e_OT_bind_exc, e_OT_bindE_ok, e_OT_bindE_exc, e_OT_bindS_ok, e_OT_bindS_exc, e_OA_bind_ok, e_OA_bind_exc, e_OA_bindE_ok, e_OA_bindE_exc, e_OA_bindI_ok, e_OA_bindI_exc, e_OI_bindE_ok, e_OI_bindE_exc, e_OI_bindS_ok, e_OI_bindS_exc, e_OG_bind_ok, e_OG_bind_exc, e_OG_bindE_ok, e_OG_bindE_exc, e_seq_nx, e_seq_ret, e_seq_brk, e_seq_cnt, e_seq_exc, e_var, e_varK_sh, e_varK_ow, e_mv, e_mvK_sh, e_mvK_ow, e_c, e_okO, e_op2, e_opK1, e_opK2, e_un, e_unK, e_and, e_or, e_not, e_tru, e_andK_t, e_andK_f, e_orK_t, e_orK_f, e_notK, e_truK, e_if, e_tand, e_tor, e_tnot, e_sif, e_ifK_t, e_ifK_f, e_sifK_t, e_sifK_f, e_tandK_t, e_tandK_f, e_torK_t, e_torK_f, e_tnotK, e_nil, e_cons, e_consK1, e_consK2, e_tup, e_lst, e_cb, e_tupK, e_lstK, e_cbK, e_chain, e_chK1, e_chK2, e_chK3, e_chB_t, e_chB_f, e_ixV, e_ixH, e_ixVK, e_ixE_own, e_ixE_sh, e_atO, e_ownAt, e_ownS_ow, e_ownS_io, e_ownS_lst, e_ownS_tup, e_ownS_str, e_ownS_int, e_lenV, e_lenK_own, e_lenK_sh, e_here_no, e_noIo_no, e_Own_no, e_here_sh, e_noIo_sh, e_Own_sh, e_here_ow, e_noIo_ow, e_Own_ow, e_here_io, e_noIo_io, e_Own_io, e_fz_sh, e_fz_ow, e_sv_sh, e_sv_ow, e_ret, e_retK, e_retN, e_expr, e_exprK, e_pass, e_break, e_cont, e_asg, e_asgK, e_asgB, e_sseq, e_set, e_setK1, e_setB, e_setK2, e_setO, e_setJ, e_nxO, e_setOwn, e_soK_ow, e_soK_io, e_app, e_appB, e_appK, e_appO, e_par, e_parA, e_parK, e_okI, e_iVal, e_iValK, e_items_lst, e_items_tup, e_items_str, e_iZp, e_iZpK, e_zp_l, e_zp_t, e_iRv, e_iRvK, e_rv_l, e_rv_t, e_iRg1, e_iRg1K, e_rg1, e_iRg2, e_iRg2K, e_rg2, e_for, e_forK, e_for_nil, e_for_cons, e_forG, e_forS_nx, e_forS_cnt, e_forS_brk, e_forS_ret, e_forS_exc, e_gVar, e_gvB, e_gTup, e_gTupW, e_gCons, e_gNil, d_add_i, d_add_s, d_add_l, d_add_t, d_mul_i, d_mul_s, d_mul_l, d_fdiv, d_mod, d_pow, d_neg, d_iI, d_ord_i, d_ord_s, d_eq_i, d_eq_s, d_ne_i, d_ne_s, d_len_l, d_len_t, d_abs, d_gcd, d_max2, d_min2, d_tup_l, d_tup_t, d_ix_l, d_ix_t, d_atR, at_0, at_1, at_2, ixn_0, ixn_1, ixn_2, e_run, e_fin_ret, e_fin_nx, e_fin_exc, e_outR, e_outX, e_out_none, e_out_some, e_ioS, e_arg_none, e_arg_nil, e_arg_0, e_arg_s, e_ioD, e_call, e_calK1, e_calK2, e_calO_ret, e_calO_exc, e_callP, e_cpK, e_cpD, e_cpC_s, e_cpC_x, e_cpC_o, e_cpS, e_cpX, e_gnil, e_gv, e_gvK1, e_gvK2, e_gs, e_gsB, e_gsK, e_go, e_goK, e_ads_nil, e_ads_cons, e_adC, e_adC2, e_adD_v, e_adD_s, e_adD_o, e_adO, e_pi, e_piK, e_sl, e_slK1, e_slK2, e_slK3, e_slO, e_part_n, e_part_i, d_slice_l, d_slice_t, e_sl3, e_s3K1, e_s3K2, e_s3K3, e_s3K4, e_s3O, e_lc, e_lcK, e_lcB, e_lcR, e_yes, e_okW2, e_okWS_no, e_okWS_sh, eq_self, log_7, List.length_cons, List.length_nil, List.map_cons, List.map_nil, List.cons_append, List.nil_append, List.replicate_succ, List.replicate_zero, List.append_nil, List.getElem?_cons_zero, List.getElem?_cons_succ, List.getElem?_nil, List.set_cons_zero, List.set_cons_succ, Option.bind_some, Option.bind_none, Option.isSome_some, Nat.reduceAdd, Nat.reduceSub, Nat.reduceLT, Nat.reduceLeDiff, Nat.reduceEqDiff, Int.reduceAdd, Int.reduceMul, Int.reduceNeg, Int.reducePow, Int.reduceLT, Int.reduceLE, and_self, and_true, true_and, if_true, if_false, ↓reduceIte, Bool.not_true, Bool.not_false, decide_true, decide_false, decide_eq_true_eq, List.all_cons, List.all_nil, Bool.and_true, Bool.true_and, Bool.and_self, wipeE, adPl, Int.reduceToNat, rng_5, abs_10, g0, dg]) <;> rfl, by (simp only [e_iEn, e_iEnK, e_enD, e_iZq, e_iZqK, e_zq_ll, e_zq_tt, e_zq_lt, e_zq_tl, e_asgT, e_asgTK, e_asgO, e_call0, List.reverse_cons, List.reverse_nil, e_cmpV, e_cvH, e_cvB, e_cvO, e_cvZ, e_join, e_jK1, e_jK2, e_len_s, e_whK_f, e_whK_t, e_whS, restE, List.getD_cons_zero, List.getD_cons_succ, List.getD_nil, d_pow_6, d_pow_12, d_pow_18, d_pow_30, e_OE_bind_ok, e_OE_bind_exc, e_OE_bindT_ok, e_OE_bindT_exc, e_OE_bindA_ok, e_OE_bindA_exc, e_OE_bindS_ok, e_OE_bindS_exc, e_OE_bindI_ok, e_OE_bindI_exc, e_OE_bindG_ok, e_OE_bindG_exc, e_OT_bind_ok, e_OT_bind_exc, e_OT_bindE_ok, e_OT_bindE_exc, e_OT_bindS_ok, e_OT_bindS_exc, e_OA_bind_ok, e_OA_bind_exc, e_OA_bindE_ok, e_OA_bindE_exc, e_OA_bindI_ok, e_OA_bindI_exc, e_OI_bindE_ok, e_OI_bindE_exc, e_OI_bindS_ok, e_OI_bindS_exc, e_OG_bind_ok, e_OG_bind_exc, e_OG_bindE_ok, e_OG_bindE_exc, e_seq_nx, e_seq_ret, e_seq_brk, e_seq_cnt, e_seq_exc, e_var, e_varK_sh, e_varK_ow, e_mv, e_mvK_sh, e_mvK_ow, e_c, e_okO, e_op2, e_opK1, e_opK2, e_un, e_unK, e_and, e_or, e_not, e_tru, e_andK_t, e_andK_f, e_orK_t, e_orK_f, e_notK, e_truK, e_if, e_tand, e_tor, e_tnot, e_sif, e_ifK_t, e_ifK_f, e_sifK_t, e_sifK_f, e_tandK_t, e_tandK_f, e_torK_t, e_torK_f, e_tnotK, e_nil, e_cons, e_consK1, e_consK2, e_tup, e_lst, e_cb, e_tupK, e_lstK, e_cbK, e_chain, e_chK1, e_chK2, e_chK3, e_chB_t, e_chB_f, e_ixV, e_ixH, e_ixVK, e_ixE_own, e_ixE_sh, e_atO, e_ownAt, e_ownS_ow, e_ownS_io, e_ownS_lst, e_ownS_tup, e_ownS_str, e_ownS_int, e_lenV, e_lenK_own, e_lenK_sh, e_here_no, e_noIo_no, e_Own_no, e_here_sh, e_noIo_sh, e_Own_sh, e_here_ow, e_noIo_ow, e_Own_ow, e_here_io, e_noIo_io, e_Own_io, e_fz_sh, e_fz_ow, e_sv_sh, e_sv_ow, e_ret, e_retK, e_retN, e_expr, e_exprK, e_pass, e_break, e_cont, e_asg, e_asgK, e_asgB, e_sseq, e_set, e_setK1, e_setB, e_setK2, e_setO, e_setJ, e_nxO, e_setOwn, e_soK_ow, e_soK_io, e_app, e_appB, e_appK, e_appO, e_par, e_parA, e_parK, e_okI, e_iVal, e_iValK, e_items_lst, e_items_tup, e_items_str, e_iZp, e_iZpK, e_zp_l, e_zp_t, e_iRv, e_iRvK, e_rv_l, e_rv_t, e_iRg1, e_iRg1K, e_rg1, e_iRg2, e_iRg2K, e_rg2, e_for, e_forK, e_for_nil, e_for_cons, e_forG, e_forS_nx, e_forS_cnt, e_forS_brk, e_forS_ret, e_forS_exc, e_gVar, e_gvB, e_gTup, e_gTupW, e_gCons, e_gNil, d_add_i, d_add_s, d_add_l, d_add_t, d_mul_i, d_mul_s, d_mul_l, d_fdiv, d_mod, d_pow, d_neg, d_iI, d_ord_i, d_ord_s, d_eq_i, d_eq_s, d_ne_i, d_ne_s, d_len_l, d_len_t, d_abs, d_gcd, d_max2, d_min2, d_tup_l, d_tup_t, d_ix_l, d_ix_t, d_atR, at_0, at_1, at_2, ixn_0, ixn_1, ixn_2, e_run, e_fin_ret, e_fin_nx, e_fin_exc, e_outR, e_outX, e_out_none, e_out_some, e_ioS, e_arg_none, e_arg_nil, e_arg_0, e_arg_s, e_ioD, e_call, e_calK1, e_calK2, e_calO_ret, e_calO_exc, e_callP, e_cpK, e_cpD, e_cpC_s, e_cpC_x, e_cpC_o, e_cpS, e_cpX, e_gnil, e_gv, e_gvK1, e_gvK2, e_gs, e_gsB, e_gsK, e_go, e_goK, e_ads_nil, e_ads_cons, e_adC, e_adC2, e_adD_v, e_adD_s, e_adD_o, e_adO, e_pi, e_piK, e_sl, e_slK1, e_slK2, e_slK3, e_slO, e_part_n, e_part_i, d_slice_l, d_slice_t, e_sl3, e_s3K1, e_s3K2, e_s3K3, e_s3K4, e_s3O, e_lc, e_lcK, e_lcB, e_lcR, e_yes, e_okW2, e_okWS_no, e_okWS_sh, eq_self, log_7, List.length_cons, List.length_nil, List.map_cons, List.map_nil, List.cons_append, List.nil_append, List.replicate_succ, List.replicate_zero, List.append_nil, List.getElem?_cons_zero, List.getElem?_cons_succ, List.getElem?_nil, List.set_cons_zero, List.set_cons_succ, Option.bind_some, Option.bind_none, Option.isSome_some, Nat.reduceAdd, Nat.reduceSub, Nat.reduceLT, Nat.reduceLeDiff, Nat.reduceEqDiff, Int.reduceAdd, Int.reduceMul, Int.reduceNeg, Int.reducePow, Int.reduceLT, Int.reduceLE, and_self, and_true, true_and, if_true, if_false, ↓reduceIte, Bool.not_true, Bool.not_false, decide_true, decide_false, decide_eq_true_eq, List.all_cons, List.all_nil, Bool.and_true, Bool.true_and, Bool.and_self, wipeE, adPl, Int.reduceToNat, rng_5, abs_10]), by (simp only [e_iEn, e_iEnK, e_enD, e_iZq, e_iZqK, e_zq_ll, e_zq_tt, e_zq_lt, e_zq_tl, e_asgT, e_asgTK, e_asgO, e_call0, List.reverse_cons, List.reverse_nil, e_cmpV, e_cvH, e_cvB, e_cvO, e_cvZ, e_join, e_jK1, e_jK2, e_len_s, e_whK_f, e_whK_t, e_whS, restE, List.getD_cons_zero, List.getD_cons_succ, List.getD_nil, d_pow_6, d_pow_12, d_pow_18, d_pow_30, e_OE_bind_ok, e_OE_bind_exc, e_OE_bindT_ok, e_OE_bindT_exc, e_OE_bindA_ok, e_OE_bindA_exc, e_OE_bindS_ok, e_OE_bindS_exc, e_OE_bindI_ok, e_OE_bindI_exc, e_OE_bindG_ok, e_OE_bindG_exc, e_OT_bind_ok, e_OT_bind_exc, e_OT_bindE_ok, e_OT_bindE_exc, e_OT_bindS_ok, e_OT_bindS_exc, e_OA_bind_ok, e_OA_bind_exc, e_OA_bindE_ok, e_OA_bindE_exc, e_OA_bindI_ok, e_OA_bindI_exc, e_OI_bindE_ok, e_OI_bindE_exc, e_OI_bindS_ok, e_OI_bindS_exc, e_OG_bind_ok, e_OG_bind_exc, e_OG_bindE_ok, e_OG_bindE_exc, e_seq_nx, e_seq_ret, e_seq_brk, e_seq_cnt, e_seq_exc, e_var, e_varK_sh, e_varK_ow, e_mv, e_mvK_sh, e_mvK_ow, e_c, e_okO, e_op2, e_opK1, e_opK2, e_un, e_unK, e_and, e_or, e_not, e_tru, e_andK_t, e_andK_f, e_orK_t, e_orK_f, e_notK, e_truK, e_if, e_tand, e_tor, e_tnot, e_sif, e_ifK_t, e_ifK_f, e_sifK_t, e_sifK_f, e_tandK_t, e_tandK_f, e_torK_t, e_torK_f, e_tnotK, e_nil, e_cons, e_consK1, e_consK2, e_tup, e_lst, e_cb, e_tupK, e_lstK, e_cbK, e_chain, e_chK1, e_chK2, e_chK3, e_chB_t, e_chB_f, e_ixV, e_ixH, e_ixVK, e_ixE_own, e_ixE_sh, e_atO, e_ownAt, e_ownS_ow, e_ownS_io, e_ownS_lst, e_ownS_tup, e_ownS_str, e_ownS_int, e_lenV, e_lenK_own, e_lenK_sh, e_here_no, e_noIo_no, e_Own_no, e_here_sh, e_noIo_sh, e_Own_sh, e_here_ow, e_noIo_ow, e_Own_ow, e_here_io, e_noIo_io, e_Own_io, e_fz_sh, e_fz_ow, e_sv_sh, e_sv_ow, e_ret, e_retK, e_retN, e_expr, e_exprK, e_pass, e_break, e_cont, e_asg, e_asgK, e_asgB, e_sseq, e_set, e_setK1, e_setB, e_setK2, e_setO, e_setJ, e_nxO, e_setOwn, e_soK_ow, e_soK_io, e_app, e_appB, e_appK, e_appO, e_par, e_parA, e_parK, e_okI, e_iVal, e_iValK, e_items_lst, e_items_tup, e_items_str, e_iZp, e_iZpK, e_zp_l, e_zp_t, e_iRv, e_iRvK, e_rv_l, e_rv_t, e_iRg1, e_iRg1K, e_rg1, e_iRg2, e_iRg2K, e_rg2, e_for, e_forK, e_for_nil, e_for_cons, e_forG, e_forS_nx, e_forS_cnt, e_forS_brk, e_forS_ret, e_forS_exc, e_gVar, e_gvB, e_gTup, e_gTupW, e_gCons, e_gNil, d_add_i, d_add_s, d_add_l, d_add_t, d_mul_i, d_mul_s, d_mul_l, d_fdiv, d_mod, d_pow, d_neg, d_iI, d_ord_i, d_ord_s, d_eq_i, d_eq_s, d_ne_i, d_ne_s, d_len_l, d_len_t, d_abs, d_gcd, d_max2, d_min2, d_tup_l, d_tup_t, d_ix_l, d_ix_t, d_atR, at_0, at_1, at_2, ixn_0, ixn_1, ixn_2, e_run, e_fin_ret, e_fin_nx, e_fin_exc, e_outR, e_outX, e_out_none, e_out_some, e_ioS, e_arg_none, e_arg_nil, e_arg_0, e_arg_s, e_ioD, e_call, e_calK1, e_calK2, e_calO_ret, e_calO_exc, e_callP, e_cpK, e_cpD, e_cpC_s, e_cpC_x, e_cpC_o, e_cpS, e_cpX, e_gnil, e_gv, e_gvK1, e_gvK2, e_gs, e_gsB, e_gsK, e_go, e_goK, e_ads_nil, e_ads_cons, e_adC, e_adC2, e_adD_v, e_adD_s, e_adD_o, e_adO, e_pi, e_piK, e_sl, e_slK1, e_slK2, e_slK3, e_slO, e_part_n, e_part_i, d_slice_l, d_slice_t, e_sl3, e_s3K1, e_s3K2, e_s3K3, e_s3K4, e_s3O, e_lc, e_lcK, e_lcB, e_lcR, e_yes, e_okW2, e_okWS_no, e_okWS_sh, eq_self, log_7, List.length_cons, List.length_nil, List.map_cons, List.map_nil, List.cons_append, List.nil_append, List.replicate_succ, List.replicate_zero, List.append_nil, List.getElem?_cons_zero, List.getElem?_cons_succ, List.getElem?_nil, List.set_cons_zero, List.set_cons_succ, Option.bind_some, Option.bind_none, Option.isSome_some, Nat.reduceAdd, Nat.reduceSub, Nat.reduceLT, Nat.reduceLeDiff, Nat.reduceEqDiff, Int.reduceAdd, Int.reduceMul, Int.reduceNeg, Int.reducePow, Int.reduceLT, Int.reduceLE, and_self, and_true, true_and, if_true, if_false, ↓reduceIte, Bool.not_true, Bool.not_false, decide_true, decide_false, decide_eq_true_eq, List.all_cons, List.all_nil, Bool.and_true, Bool.true_and, Bool.and_self, wipeE, adPl, Int.reduceToNat, rng_5, abs_10])⟩)]
    have le4 : 1 + (ns.map fun i => i / (g : Int)).length ≤ 1000000 := by rw [List.length_map]; omega
    simp only [e_iEn, e_iEnK, e_enD, e_iZq, e_iZqK, e_zq_ll, e_zq_tt, e_zq_lt, e_zq_tl, e_asgT, e_asgTK, e_asgO, e_call0, List.reverse_cons, List.reverse_nil, e_cmpV, e_cvH, e_cvB, e_cvO, e_cvZ, e_join, e_jK1, e_jK2, e_len_s, e_whK_f, e_whK_t, e_whS, restE, List.getD_cons_zero, List.getD_cons_succ, List.getD_nil, d_pow_6, d_pow_12, d_pow_18, d_pow_30, e_OE_bind_ok, e_OE_bind_exc, e_OE_bindT_ok, e_OE_bindT_exc, e_OE_bindA_ok, e_OE_bindA_exc, e_OE_bindS_ok, e_OE_bindS_exc, e_OE_bindI_ok, e_OE_bindI_exc, e_OE_bindG_ok, e_OE_bindG_exc, e_OT_bind_ok, e_OT_bind_exc, e_OT_bindE_ok, e_OT_bindE_exc, e_OT_bindS_ok, e_OT_bindS_exc, e_OA_bind_ok, e_OA_bind_exc, e_OA_bindE_ok, e_OA_bindE_exc, e_OA_bindI_ok, e_OA_bindI_exc, e_OI_bindE_ok, e_OI_bindE_exc, e_OI_bindS_ok, e_OI_bindS_exc, e_OG_bind_ok, e_OG_bind_exc, e_OG_bindE_ok, e_OG_bindE_exc, e_seq_nx, e_seq_ret, e_seq_brk, e_seq_cnt, e_seq_exc, e_var, e_varK_sh, e_varK_ow, e_mv, e_mvK_sh, e_mvK_ow, e_c, e_okO, e_op2, e_opK1, e_opK2, e_un, e_unK, e_and, e_or, e_not, e_tru, e_andK_t, e_andK_f, e_orK_t, e_orK_f, e_notK, e_truK, e_if, e_tand, e_tor, e_tnot, e_sif, e_ifK_t, e_ifK_f, e_sifK_t, e_sifK_f, e_tandK_t, e_tandK_f, e_torK_t, e_torK_f, e_tnotK, e_nil, e_cons, e_consK1, e_consK2, e_tup, e_lst, e_cb, e_tupK, e_lstK, e_cbK, e_chain, e_chK1, e_chK2, e_chK3, e_chB_t, e_chB_f, e_ixV, e_ixH, e_ixVK, e_ixE_own, e_ixE_sh, e_atO, e_ownAt, e_ownS_ow, e_ownS_io, e_ownS_lst, e_ownS_tup, e_ownS_str, e_ownS_int, e_lenV, e_lenK_own, e_lenK_sh, e_here_no, e_noIo_no, e_Own_no, e_here_sh, e_noIo_sh, e_Own_sh, e_here_ow, e_noIo_ow, e_Own_ow, e_here_io, e_noIo_io, e_Own_io, e_fz_sh, e_fz_ow, e_sv_sh, e_sv_ow, e_ret, e_retK, e_retN, e_expr, e_exprK, e_pass, e_break, e_cont, e_asg, e_asgK, e_asgB, e_sseq, e_set, e_setK1, e_setB, e_setK2, e_setO, e_setJ, e_nxO, e_setOwn, e_soK_ow, e_soK_io, e_app, e_appB, e_appK, e_appO, e_par, e_parA, e_parK, e_okI, e_iVal, e_iValK, e_items_lst, e_items_tup, e_items_str, e_iZp, e_iZpK, e_zp_l, e_zp_t, e_iRv, e_iRvK, e_rv_l, e_rv_t, e_iRg1, e_iRg1K, e_rg1, e_iRg2, e_iRg2K, e_rg2, e_for, e_forK, e_for_nil, e_for_cons, e_forG, e_forS_nx, e_forS_cnt, e_forS_brk, e_forS_ret, e_forS_exc, e_gVar, e_gvB, e_gTup, e_gTupW, e_gCons, e_gNil, d_add_i, d_add_s, d_add_l, d_add_t, d_mul_i, d_mul_s, d_mul_l, d_fdiv, d_mod, d_pow, d_neg, d_iI, d_ord_i, d_ord_s, d_eq_i, d_eq_s, d_ne_i, d_ne_s, d_len_l, d_len_t, d_abs, d_gcd, d_max2, d_min2, d_tup_l, d_tup_t, d_ix_l, d_ix_t, d_atR, at_0, at_1, at_2, ixn_0, ixn_1, ixn_2, e_run, e_fin_ret, e_fin_nx, e_fin_exc, e_outR, e_outX, e_out_none, e_out_some, e_ioS, e_arg_none, e_arg_nil, e_arg_0, e_arg_s, e_ioD, e_call, e_calK1, e_calK2, e_calO_ret, e_calO_exc, e_callP, e_cpK, e_cpD, e_cpC_s, e_cpC_x, e_cpC_o, e_cpS, e_cpX, e_gnil, e_gv, e_gvK1, e_gvK2, e_gs, e_gsB, e_gsK, e_go, e_goK, e_ads_nil, e_ads_cons, e_adC, e_adC2, e_adD_v, e_adD_s, e_adD_o, e_adO, e_pi, e_piK, e_sl, e_slK1, e_slK2, e_slK3, e_slO, e_part_n, e_part_i, d_slice_l, d_slice_t, e_sl3, e_s3K1, e_s3K2, e_s3K3, e_s3K4, e_s3O, e_lc, e_lcK, e_lcB, e_lcR, e_yes, e_okW2, e_okWS_no, e_okWS_sh, eq_self, log_7, List.length_cons, List.length_nil, List.map_cons, List.map_nil, List.cons_append, List.nil_append, List.replicate_succ, List.replicate_zero, List.append_nil, List.getElem?_cons_zero, List.getElem?_cons_succ, List.getElem?_nil, List.set_cons_zero, List.set_cons_succ, Option.bind_some, Option.bind_none, Option.isSome_some, Nat.reduceAdd, Nat.reduceSub, Nat.reduceLT, Nat.reduceLeDiff, Nat.reduceEqDiff, Int.reduceAdd, Int.reduceMul, Int.reduceNeg, Int.reducePow, Int.reduceLT, Int.reduceLE, and_self, and_true, true_and, if_true, if_false, ↓reduceIte, Bool.not_true, Bool.not_false, decide_true, decide_false, decide_eq_true_eq, List.all_cons, List.all_nil, Bool.and_true, Bool.true_and, Bool.and_self, wipeE, adPl, Int.reduceToNat, rng_5, abs_10, g0, len_ints, z1, le4, dv, repr_1, dt0, repr_0, last]
  · simp only [e_iEn, e_iEnK, e_enD, e_iZq, e_iZqK, e_zq_ll, e_zq_tt, e_zq_lt, e_zq_tl, e_asgT, e_asgTK, e_asgO, e_call0, List.reverse_cons, List.reverse_nil, e_cmpV, e_cvH, e_cvB, e_cvO, e_cvZ, e_join, e_jK1, e_jK2, e_len_s, e_whK_f, e_whK_t, e_whS, restE, List.getD_cons_zero, List.getD_cons_succ, List.getD_nil, d_pow_6, d_pow_12, d_pow_18, d_pow_30, e_OE_bind_ok, e_OE_bind_exc, e_OE_bindT_ok, e_OE_bindT_exc, e_OE_bindA_ok, e_OE_bindA_exc, e_OE_bindS_ok, e_OE_bindS_exc, e_OE_bindI_ok, e_OE_bindI_exc, e_OE_bindG_ok, e_OE_bindG_exc, e_OT_bind_ok, e_OT_bind_exc, e_OT_bindE_ok, e_OT_bindE_exc, e_OT_bindS_ok, e_OT_bindS_exc, e_OA_bind_ok, e_OA_bind_exc, e_OA_bindE_ok, e_OA_bindE_exc, e_OA_bindI_ok, e_OA_bindI_exc, e_OI_bindE_ok, e_OI_bindE_exc, e_OI_bindS_ok, e_OI_bindS_exc, e_OG_bind_ok, e_OG_bind_exc, e_OG_bindE_ok, e_OG_bindE_exc, e_seq_nx, e_seq_ret, e_seq_brk, e_seq_cnt, e_seq_exc, e_var, e_varK_sh, e_varK_ow, e_mv, e_mvK_sh, e_mvK_ow, e_c, e_okO, e_op2, e_opK1, e_opK2, e_un, e_unK, e_and, e_or, e_not, e_tru, e_andK_t, e_andK_f, e_orK_t, e_orK_f, e_notK, e_truK, e_if, e_tand, e_tor, e_tnot, e_sif, e_ifK_t, e_ifK_f, e_sifK_t, e_sifK_f, e_tandK_t, e_tandK_f, e_torK_t, e_torK_f, e_tnotK, e_nil, e_cons, e_consK1, e_consK2, e_tup, e_lst, e_cb, e_tupK, e_lstK, e_cbK, e_chain, e_chK1, e_chK2, e_chK3, e_chB_t, e_chB_f, e_ixV, e_ixH, e_ixVK, e_ixE_own, e_ixE_sh, e_atO, e_ownAt, e_ownS_ow, e_ownS_io, e_ownS_lst, e_ownS_tup, e_ownS_str, e_ownS_int, e_lenV, e_lenK_own, e_lenK_sh, e_here_no, e_noIo_no, e_Own_no, e_here_sh, e_noIo_sh, e_Own_sh, e_here_ow, e_noIo_ow, e_Own_ow, e_here_io, e_noIo_io, e_Own_io, e_fz_sh, e_fz_ow, e_sv_sh, e_sv_ow, e_ret, e_retK, e_retN, e_expr, e_exprK, e_pass, e_break, e_cont, e_asg, e_asgK, e_asgB, e_sseq, e_set, e_setK1, e_setB, e_setK2, e_setO, e_setJ, e_nxO, e_setOwn, e_soK_ow, e_soK_io, e_app, e_appB, e_appK, e_appO, e_par, e_parA, e_parK, e_okI, e_iVal, e_iValK, e_items_lst, e_items_tup, e_items_str, e_iZp, e_iZpK, e_zp_l, e_zp_t, e_iRv, e_iRvK, e_rv_l, e_rv_t, e_iRg1, e_iRg1K, e_rg1, e_iRg2, e_iRg2K, e_rg2, e_for, e_forK, e_for_nil, e_for_cons, e_forG, e_forS_nx, e_forS_cnt, e_forS_brk, e_forS_ret, e_forS_exc, e_gVar, e_gvB, e_gTup, e_gTupW, e_gCons, e_gNil, d_add_i, d_add_s, d_add_l, d_add_t, d_mul_i, d_mul_s, d_mul_l, d_fdiv, d_mod, d_pow, d_neg, d_iI, d_ord_i, d_ord_s, d_eq_i, d_eq_s, d_ne_i, d_ne_s, d_len_l, d_len_t, d_abs, d_gcd, d_max2, d_min2, d_tup_l, d_tup_t, d_ix_l, d_ix_t, d_atR, at_0, at_1, at_2, ixn_0, ixn_1, ixn_2, e_run, e_fin_ret, e_fin_nx, e_fin_exc, e_outR, e_outX, e_out_none, e_out_some, e_ioS, e_arg_none, e_arg_nil, e_arg_0, e_arg_s, e_ioD, e_call, e_calK1, e_calK2, e_calO_ret, e_calO_exc, e_callP, e_cpK, e_cpD, e_cpC_s, e_cpC_x, e_cpC_o, e_cpS, e_cpX, e_gnil, e_gv, e_gvK1, e_gvK2, e_gs, e_gsB, e_gsK, e_go, e_goK, e_ads_nil, e_ads_cons, e_adC, e_adC2, e_adD_v, e_adD_s, e_adD_o, e_adO, e_pi, e_piK, e_sl, e_slK1, e_slK2, e_slK3, e_slO, e_part_n, e_part_i, d_slice_l, d_slice_t, e_sl3, e_s3K1, e_s3K2, e_s3K3, e_s3K4, e_s3O, e_lc, e_lcK, e_lcB, e_lcR, e_yes, e_okW2, e_okWS_no, e_okWS_sh, eq_self, log_7, List.length_cons, List.length_nil, List.map_cons, List.map_nil, List.cons_append, List.nil_append, List.replicate_succ, List.replicate_zero, List.append_nil, List.getElem?_cons_zero, List.getElem?_cons_succ, List.getElem?_nil, List.set_cons_zero, List.set_cons_succ, Option.bind_some, Option.bind_none, Option.isSome_some, Nat.reduceAdd, Nat.reduceSub, Nat.reduceLT, Nat.reduceLeDiff, Nat.reduceEqDiff, Int.reduceAdd, Int.reduceMul, Int.reduceNeg, Int.reducePow, Int.reduceLT, Int.reduceLE, and_self, and_true, true_and, if_true, if_false, ↓reduceIte, Bool.not_true, Bool.not_false, decide_true, decide_false, decide_eq_true_eq, List.all_cons, List.all_nil, Bool.and_true, Bool.true_and, Bool.and_self, wipeE, adPl, Int.reduceToNat, rng_5, abs_10, g0, dt0, repr_0, last]
theorem law_true (ns : List Int) (hl : ns.length ≤ 63) (_ : ∀ k ∈ ns, Builtin.Int.intBits k ≤ 1048576) : f_law [.lst (intsL ns)] = .ret (.sh (.bl true)) [] := by
  obtain ⟨cs, e1, hc⟩ := folded_p ns hl
  obtain ⟨rs, env', q1, q2, q3⟩ := lcL_inv (f := gVar 2) (ot := oYes) (oe := oCallP f__law_right 1 0 (oGo (oCall f__law_pool 2 0 (fun ds _ => ds) (oCons (oVar 1) (oCons (oVar 2) oNil)) oNil))) (ws := [2]) (fun _ e => e = [SV.sh (D.lst (intsL ns)), SV.sh (D.lst (intsL cs)), SV.no] ∨ e = [SV.sh (D.lst (intsL ns)), SV.ow (intsL cs), SV.no]) (fun _ r => r = .bl true) (rngD 0 cs.length) 0 [SV.sh (D.lst (intsL ns)), SV.ow (intsL cs), SV.no] [] (by rw [rng_len, List.length_nil]; omega) (.inr rfl) (by
    rintro k d env _ hk hd he
    obtain ⟨j, hj, rfl⟩ : ∃ j : Nat, j < 8 ∧ d = .int (j : Int) := by
      obtain ⟨i, hi⟩ := List.getElem?_of_mem hd
      have hlt := (List.getElem?_eq_some_iff.mp hi).1
      rw [rng_len] at hlt
      refine ⟨i, by omega, ?_⟩
      rw [rng_get hi, Int.zero_add]
    obtain ⟨p, ep, hp⟩ := pool_p cs j hj
    obtain ⟨p', er⟩ := right_p hp (by omega)
    rcases he with rfl | rfl
    · exact ⟨_, _, _, _, by (simp only [e_iEn, e_iEnK, e_enD, e_iZq, e_iZqK, e_zq_ll, e_zq_tt, e_zq_lt, e_zq_tl, e_asgT, e_asgTK, e_asgO, e_call0, List.reverse_cons, List.reverse_nil, e_cmpV, e_cvH, e_cvB, e_cvO, e_cvZ, e_join, e_jK1, e_jK2, e_len_s, e_whK_f, e_whK_t, e_whS, restE, List.getD_cons_zero, List.getD_cons_succ, List.getD_nil, d_pow_6, d_pow_12, d_pow_18, d_pow_30, e_OE_bind_ok, e_OE_bind_exc, e_OE_bindT_ok, e_OE_bindT_exc, e_OE_bindA_ok, e_OE_bindA_exc, e_OE_bindS_ok, e_OE_bindS_exc, e_OE_bindI_ok, e_OE_bindI_exc, e_OE_bindG_ok, e_OE_bindG_exc, e_OT_bind_ok, e_OT_bind_exc, e_OT_bindE_ok, e_OT_bindE_exc, e_OT_bindS_ok, e_OT_bindS_exc, e_OA_bind_ok, e_OA_bind_exc, e_OA_bindE_ok, e_OA_bindE_exc, e_OA_bindI_ok, e_OA_bindI_exc, e_OI_bindE_ok, e_OI_bindE_exc, e_OI_bindS_ok, e_OI_bindS_exc, e_OG_bind_ok, e_OG_bind_exc, e_OG_bindE_ok, e_OG_bindE_exc, e_seq_nx, e_seq_ret, e_seq_brk, e_seq_cnt, e_seq_exc, e_var, e_varK_sh, e_varK_ow, e_mv, e_mvK_sh, e_mvK_ow, e_c, e_okO, e_op2, e_opK1, e_opK2, e_un, e_unK, e_and, e_or, e_not, e_tru, e_andK_t, e_andK_f, e_orK_t, e_orK_f, e_notK, e_truK, e_if, e_tand, e_tor, e_tnot, e_sif, e_ifK_t, e_ifK_f, e_sifK_t, e_sifK_f, e_tandK_t, e_tandK_f, e_torK_t, e_torK_f, e_tnotK, e_nil, e_cons, e_consK1, e_consK2, e_tup, e_lst, e_cb, e_tupK, e_lstK, e_cbK, e_chain, e_chK1, e_chK2, e_chK3, e_chB_t, e_chB_f, e_ixV, e_ixH, e_ixVK, e_ixE_own, e_ixE_sh, e_atO, e_ownAt, e_ownS_ow, e_ownS_io, e_ownS_lst, e_ownS_tup, e_ownS_str, e_ownS_int, e_lenV, e_lenK_own, e_lenK_sh, e_here_no, e_noIo_no, e_Own_no, e_here_sh, e_noIo_sh, e_Own_sh, e_here_ow, e_noIo_ow, e_Own_ow, e_here_io, e_noIo_io, e_Own_io, e_fz_sh, e_fz_ow, e_sv_sh, e_sv_ow, e_ret, e_retK, e_retN, e_expr, e_exprK, e_pass, e_break, e_cont, e_asg, e_asgK, e_asgB, e_sseq, e_set, e_setK1, e_setB, e_setK2, e_setO, e_setJ, e_nxO, e_setOwn, e_soK_ow, e_soK_io, e_app, e_appB, e_appK, e_appO, e_par, e_parA, e_parK, e_okI, e_iVal, e_iValK, e_items_lst, e_items_tup, e_items_str, e_iZp, e_iZpK, e_zp_l, e_zp_t, e_iRv, e_iRvK, e_rv_l, e_rv_t, e_iRg1, e_iRg1K, e_rg1, e_iRg2, e_iRg2K, e_rg2, e_for, e_forK, e_for_nil, e_for_cons, e_forG, e_forS_nx, e_forS_cnt, e_forS_brk, e_forS_ret, e_forS_exc, e_gVar, e_gvB, e_gTup, e_gTupW, e_gCons, e_gNil, d_add_i, d_add_s, d_add_l, d_add_t, d_mul_i, d_mul_s, d_mul_l, d_fdiv, d_mod, d_pow, d_neg, d_iI, d_ord_i, d_ord_s, d_eq_i, d_eq_s, d_ne_i, d_ne_s, d_len_l, d_len_t, d_abs, d_gcd, d_max2, d_min2, d_tup_l, d_tup_t, d_ix_l, d_ix_t, d_atR, at_0, at_1, at_2, ixn_0, ixn_1, ixn_2, e_run, e_fin_ret, e_fin_nx, e_fin_exc, e_outR, e_outX, e_out_none, e_out_some, e_ioS, e_arg_none, e_arg_nil, e_arg_0, e_arg_s, e_ioD, e_call, e_calK1, e_calK2, e_calO_ret, e_calO_exc, e_callP, e_cpK, e_cpD, e_cpC_s, e_cpC_x, e_cpC_o, e_cpS, e_cpX, e_gnil, e_gv, e_gvK1, e_gvK2, e_gs, e_gsB, e_gsK, e_go, e_goK, e_ads_nil, e_ads_cons, e_adC, e_adC2, e_adD_v, e_adD_s, e_adD_o, e_adO, e_pi, e_piK, e_sl, e_slK1, e_slK2, e_slK3, e_slO, e_part_n, e_part_i, d_slice_l, d_slice_t, e_sl3, e_s3K1, e_s3K2, e_s3K3, e_s3K4, e_s3O, e_lc, e_lcK, e_lcB, e_lcR, e_yes, e_okW2, e_okWS_no, e_okWS_sh, eq_self, log_7, List.length_cons, List.length_nil, List.map_cons, List.map_nil, List.cons_append, List.nil_append, List.replicate_succ, List.replicate_zero, List.append_nil, List.getElem?_cons_zero, List.getElem?_cons_succ, List.getElem?_nil, List.set_cons_zero, List.set_cons_succ, Option.bind_some, Option.bind_none, Option.isSome_some, Nat.reduceAdd, Nat.reduceSub, Nat.reduceLT, Nat.reduceLeDiff, Nat.reduceEqDiff, Int.reduceAdd, Int.reduceMul, Int.reduceNeg, Int.reducePow, Int.reduceLT, Int.reduceLE, and_self, and_true, true_and, if_true, if_false, ↓reduceIte, Bool.not_true, Bool.not_false, decide_true, decide_false, decide_eq_true_eq, List.all_cons, List.all_nil, Bool.and_true, Bool.true_and, Bool.and_self, wipeE, adPl, Int.reduceToNat, rng_5, abs_10]) <;> rfl, by (simp only [e_iEn, e_iEnK, e_enD, e_iZq, e_iZqK, e_zq_ll, e_zq_tt, e_zq_lt, e_zq_tl, e_asgT, e_asgTK, e_asgO, e_call0, List.reverse_cons, List.reverse_nil, e_cmpV, e_cvH, e_cvB, e_cvO, e_cvZ, e_join, e_jK1, e_jK2, e_len_s, e_whK_f, e_whK_t, e_whS, restE, List.getD_cons_zero, List.getD_cons_succ, List.getD_nil, d_pow_6, d_pow_12, d_pow_18, d_pow_30, e_OE_bind_ok, e_OE_bind_exc, e_OE_bindT_ok, e_OE_bindT_exc, e_OE_bindA_ok, e_OE_bindA_exc, e_OE_bindS_ok, e_OE_bindS_exc, e_OE_bindI_ok, e_OE_bindI_exc, e_OE_bindG_ok, e_OE_bindG_exc, e_OT_bind_ok, e_OT_bind_exc, e_OT_bindE_ok, e_OT_bindE_exc, e_OT_bindS_ok, e_OT_bindS_exc, e_OA_bind_ok, e_OA_bind_exc, e_OA_bindE_ok, e_OA_bindE_exc, e_OA_bindI_ok, e_OA_bindI_exc, e_OI_bindE_ok, e_OI_bindE_exc, e_OI_bindS_ok, e_OI_bindS_exc, e_OG_bind_ok, e_OG_bind_exc, e_OG_bindE_ok, e_OG_bindE_exc, e_seq_nx, e_seq_ret, e_seq_brk, e_seq_cnt, e_seq_exc, e_var, e_varK_sh, e_varK_ow, e_mv, e_mvK_sh, e_mvK_ow, e_c, e_okO, e_op2, e_opK1, e_opK2, e_un, e_unK, e_and, e_or, e_not, e_tru, e_andK_t, e_andK_f, e_orK_t, e_orK_f, e_notK, e_truK, e_if, e_tand, e_tor, e_tnot, e_sif, e_ifK_t, e_ifK_f, e_sifK_t, e_sifK_f, e_tandK_t, e_tandK_f, e_torK_t, e_torK_f, e_tnotK, e_nil, e_cons, e_consK1, e_consK2, e_tup, e_lst, e_cb, e_tupK, e_lstK, e_cbK, e_chain, e_chK1, e_chK2, e_chK3, e_chB_t, e_chB_f, e_ixV, e_ixH, e_ixVK, e_ixE_own, e_ixE_sh, e_atO, e_ownAt, e_ownS_ow, e_ownS_io, e_ownS_lst, e_ownS_tup, e_ownS_str, e_ownS_int, e_lenV, e_lenK_own, e_lenK_sh, e_here_no, e_noIo_no, e_Own_no, e_here_sh, e_noIo_sh, e_Own_sh, e_here_ow, e_noIo_ow, e_Own_ow, e_here_io, e_noIo_io, e_Own_io, e_fz_sh, e_fz_ow, e_sv_sh, e_sv_ow, e_ret, e_retK, e_retN, e_expr, e_exprK, e_pass, e_break, e_cont, e_asg, e_asgK, e_asgB, e_sseq, e_set, e_setK1, e_setB, e_setK2, e_setO, e_setJ, e_nxO, e_setOwn, e_soK_ow, e_soK_io, e_app, e_appB, e_appK, e_appO, e_par, e_parA, e_parK, e_okI, e_iVal, e_iValK, e_items_lst, e_items_tup, e_items_str, e_iZp, e_iZpK, e_zp_l, e_zp_t, e_iRv, e_iRvK, e_rv_l, e_rv_t, e_iRg1, e_iRg1K, e_rg1, e_iRg2, e_iRg2K, e_rg2, e_for, e_forK, e_for_nil, e_for_cons, e_forG, e_forS_nx, e_forS_cnt, e_forS_brk, e_forS_ret, e_forS_exc, e_gVar, e_gvB, e_gTup, e_gTupW, e_gCons, e_gNil, d_add_i, d_add_s, d_add_l, d_add_t, d_mul_i, d_mul_s, d_mul_l, d_fdiv, d_mod, d_pow, d_neg, d_iI, d_ord_i, d_ord_s, d_eq_i, d_eq_s, d_ne_i, d_ne_s, d_len_l, d_len_t, d_abs, d_gcd, d_max2, d_min2, d_tup_l, d_tup_t, d_ix_l, d_ix_t, d_atR, at_0, at_1, at_2, ixn_0, ixn_1, ixn_2, e_run, e_fin_ret, e_fin_nx, e_fin_exc, e_outR, e_outX, e_out_none, e_out_some, e_ioS, e_arg_none, e_arg_nil, e_arg_0, e_arg_s, e_ioD, e_call, e_calK1, e_calK2, e_calO_ret, e_calO_exc, e_callP, e_cpK, e_cpD, e_cpC_s, e_cpC_x, e_cpC_o, e_cpS, e_cpX, e_gnil, e_gv, e_gvK1, e_gvK2, e_gs, e_gsB, e_gsK, e_go, e_goK, e_ads_nil, e_ads_cons, e_adC, e_adC2, e_adD_v, e_adD_s, e_adD_o, e_adO, e_pi, e_piK, e_sl, e_slK1, e_slK2, e_slK3, e_slO, e_part_n, e_part_i, d_slice_l, d_slice_t, e_sl3, e_s3K1, e_s3K2, e_s3K3, e_s3K4, e_s3O, e_lc, e_lcK, e_lcB, e_lcR, e_yes, e_okW2, e_okWS_no, e_okWS_sh, eq_self, log_7, List.length_cons, List.length_nil, List.map_cons, List.map_nil, List.cons_append, List.nil_append, List.replicate_succ, List.replicate_zero, List.append_nil, List.getElem?_cons_zero, List.getElem?_cons_succ, List.getElem?_nil, List.set_cons_zero, List.set_cons_succ, Option.bind_some, Option.bind_none, Option.isSome_some, Nat.reduceAdd, Nat.reduceSub, Nat.reduceLT, Nat.reduceLeDiff, Nat.reduceEqDiff, Int.reduceAdd, Int.reduceMul, Int.reduceNeg, Int.reducePow, Int.reduceLT, Int.reduceLE, and_self, and_true, true_and, if_true, if_false, ↓reduceIte, Bool.not_true, Bool.not_false, decide_true, decide_false, decide_eq_true_eq, List.all_cons, List.all_nil, Bool.and_true, Bool.true_and, Bool.and_self, wipeE, adPl, Int.reduceToNat, rng_5, abs_10]) <;> rfl, by (simp only [e_iEn, e_iEnK, e_enD, e_iZq, e_iZqK, e_zq_ll, e_zq_tt, e_zq_lt, e_zq_tl, e_asgT, e_asgTK, e_asgO, e_call0, List.reverse_cons, List.reverse_nil, e_cmpV, e_cvH, e_cvB, e_cvO, e_cvZ, e_join, e_jK1, e_jK2, e_len_s, e_whK_f, e_whK_t, e_whS, restE, List.getD_cons_zero, List.getD_cons_succ, List.getD_nil, d_pow_6, d_pow_12, d_pow_18, d_pow_30, e_OE_bind_ok, e_OE_bind_exc, e_OE_bindT_ok, e_OE_bindT_exc, e_OE_bindA_ok, e_OE_bindA_exc, e_OE_bindS_ok, e_OE_bindS_exc, e_OE_bindI_ok, e_OE_bindI_exc, e_OE_bindG_ok, e_OE_bindG_exc, e_OT_bind_ok, e_OT_bind_exc, e_OT_bindE_ok, e_OT_bindE_exc, e_OT_bindS_ok, e_OT_bindS_exc, e_OA_bind_ok, e_OA_bind_exc, e_OA_bindE_ok, e_OA_bindE_exc, e_OA_bindI_ok, e_OA_bindI_exc, e_OI_bindE_ok, e_OI_bindE_exc, e_OI_bindS_ok, e_OI_bindS_exc, e_OG_bind_ok, e_OG_bind_exc, e_OG_bindE_ok, e_OG_bindE_exc, e_seq_nx, e_seq_ret, e_seq_brk, e_seq_cnt, e_seq_exc, e_var, e_varK_sh, e_varK_ow, e_mv, e_mvK_sh, e_mvK_ow, e_c, e_okO, e_op2, e_opK1, e_opK2, e_un, e_unK, e_and, e_or, e_not, e_tru, e_andK_t, e_andK_f, e_orK_t, e_orK_f, e_notK, e_truK, e_if, e_tand, e_tor, e_tnot, e_sif, e_ifK_t, e_ifK_f, e_sifK_t, e_sifK_f, e_tandK_t, e_tandK_f, e_torK_t, e_torK_f, e_tnotK, e_nil, e_cons, e_consK1, e_consK2, e_tup, e_lst, e_cb, e_tupK, e_lstK, e_cbK, e_chain, e_chK1, e_chK2, e_chK3, e_chB_t, e_chB_f, e_ixV, e_ixH, e_ixVK, e_ixE_own, e_ixE_sh, e_atO, e_ownAt, e_ownS_ow, e_ownS_io, e_ownS_lst, e_ownS_tup, e_ownS_str, e_ownS_int, e_lenV, e_lenK_own, e_lenK_sh, e_here_no, e_noIo_no, e_Own_no, e_here_sh, e_noIo_sh, e_Own_sh, e_here_ow, e_noIo_ow, e_Own_ow, e_here_io, e_noIo_io, e_Own_io, e_fz_sh, e_fz_ow, e_sv_sh, e_sv_ow, e_ret, e_retK, e_retN, e_expr, e_exprK, e_pass, e_break, e_cont, e_asg, e_asgK, e_asgB, e_sseq, e_set, e_setK1, e_setB, e_setK2, e_setO, e_setJ, e_nxO, e_setOwn, e_soK_ow, e_soK_io, e_app, e_appB, e_appK, e_appO, e_par, e_parA, e_parK, e_okI, e_iVal, e_iValK, e_items_lst, e_items_tup, e_items_str, e_iZp, e_iZpK, e_zp_l, e_zp_t, e_iRv, e_iRvK, e_rv_l, e_rv_t, e_iRg1, e_iRg1K, e_rg1, e_iRg2, e_iRg2K, e_rg2, e_for, e_forK, e_for_nil, e_for_cons, e_forG, e_forS_nx, e_forS_cnt, e_forS_brk, e_forS_ret, e_forS_exc, e_gVar, e_gvB, e_gTup, e_gTupW, e_gCons, e_gNil, d_add_i, d_add_s, d_add_l, d_add_t, d_mul_i, d_mul_s, d_mul_l, d_fdiv, d_mod, d_pow, d_neg, d_iI, d_ord_i, d_ord_s, d_eq_i, d_eq_s, d_ne_i, d_ne_s, d_len_l, d_len_t, d_abs, d_gcd, d_max2, d_min2, d_tup_l, d_tup_t, d_ix_l, d_ix_t, d_atR, at_0, at_1, at_2, ixn_0, ixn_1, ixn_2, e_run, e_fin_ret, e_fin_nx, e_fin_exc, e_outR, e_outX, e_out_none, e_out_some, e_ioS, e_arg_none, e_arg_nil, e_arg_0, e_arg_s, e_ioD, e_call, e_calK1, e_calK2, e_calO_ret, e_calO_exc, e_callP, e_cpK, e_cpD, e_cpC_s, e_cpC_x, e_cpC_o, e_cpS, e_cpX, e_gnil, e_gv, e_gvK1, e_gvK2, e_gs, e_gsB, e_gsK, e_go, e_goK, e_ads_nil, e_ads_cons, e_adC, e_adC2, e_adD_v, e_adD_s, e_adD_o, e_adO, e_pi, e_piK, e_sl, e_slK1, e_slK2, e_slK3, e_slO, e_part_n, e_part_i, d_slice_l, d_slice_t, e_sl3, e_s3K1, e_s3K2, e_s3K3, e_s3K4, e_s3O, e_lc, e_lcK, e_lcB, e_lcR, e_yes, e_okW2, e_okWS_no, e_okWS_sh, eq_self, log_7, List.length_cons, List.length_nil, List.map_cons, List.map_nil, List.cons_append, List.nil_append, List.replicate_succ, List.replicate_zero, List.append_nil, List.getElem?_cons_zero, List.getElem?_cons_succ, List.getElem?_nil, List.set_cons_zero, List.set_cons_succ, Option.bind_some, Option.bind_none, Option.isSome_some, Nat.reduceAdd, Nat.reduceSub, Nat.reduceLT, Nat.reduceLeDiff, Nat.reduceEqDiff, Int.reduceAdd, Int.reduceMul, Int.reduceNeg, Int.reducePow, Int.reduceLT, Int.reduceLE, and_self, and_true, true_and, if_true, if_false, ↓reduceIte, Bool.not_true, Bool.not_false, decide_true, decide_false, decide_eq_true_eq, List.all_cons, List.all_nil, Bool.and_true, Bool.true_and, Bool.and_self, wipeE, adPl, Int.reduceToNat, rng_5, abs_10, ep, er]) <;> rfl, by (simp only [e_iEn, e_iEnK, e_enD, e_iZq, e_iZqK, e_zq_ll, e_zq_tt, e_zq_lt, e_zq_tl, e_asgT, e_asgTK, e_asgO, e_call0, List.reverse_cons, List.reverse_nil, e_cmpV, e_cvH, e_cvB, e_cvO, e_cvZ, e_join, e_jK1, e_jK2, e_len_s, e_whK_f, e_whK_t, e_whS, restE, List.getD_cons_zero, List.getD_cons_succ, List.getD_nil, d_pow_6, d_pow_12, d_pow_18, d_pow_30, e_OE_bind_ok, e_OE_bind_exc, e_OE_bindT_ok, e_OE_bindT_exc, e_OE_bindA_ok, e_OE_bindA_exc, e_OE_bindS_ok, e_OE_bindS_exc, e_OE_bindI_ok, e_OE_bindI_exc, e_OE_bindG_ok, e_OE_bindG_exc, e_OT_bind_ok, e_OT_bind_exc, e_OT_bindE_ok, e_OT_bindE_exc, e_OT_bindS_ok, e_OT_bindS_exc, e_OA_bind_ok, e_OA_bind_exc, e_OA_bindE_ok, e_OA_bindE_exc, e_OA_bindI_ok, e_OA_bindI_exc, e_OI_bindE_ok, e_OI_bindE_exc, e_OI_bindS_ok, e_OI_bindS_exc, e_OG_bind_ok, e_OG_bind_exc, e_OG_bindE_ok, e_OG_bindE_exc, e_seq_nx, e_seq_ret, e_seq_brk, e_seq_cnt, e_seq_exc, e_var, e_varK_sh, e_varK_ow, e_mv, e_mvK_sh, e_mvK_ow, e_c, e_okO, e_op2, e_opK1, e_opK2, e_un, e_unK, e_and, e_or, e_not, e_tru, e_andK_t, e_andK_f, e_orK_t, e_orK_f, e_notK, e_truK, e_if, e_tand, e_tor, e_tnot, e_sif, e_ifK_t, e_ifK_f, e_sifK_t, e_sifK_f, e_tandK_t, e_tandK_f, e_torK_t, e_torK_f, e_tnotK, e_nil, e_cons, e_consK1, e_consK2, e_tup, e_lst, e_cb, e_tupK, e_lstK, e_cbK, e_chain, e_chK1, e_chK2, e_chK3, e_chB_t, e_chB_f, e_ixV, e_ixH, e_ixVK, e_ixE_own, e_ixE_sh, e_atO, e_ownAt, e_ownS_ow, e_ownS_io, e_ownS_lst, e_ownS_tup, e_ownS_str, e_ownS_int, e_lenV, e_lenK_own, e_lenK_sh, e_here_no, e_noIo_no, e_Own_no, e_here_sh, e_noIo_sh, e_Own_sh, e_here_ow, e_noIo_ow, e_Own_ow, e_here_io, e_noIo_io, e_Own_io, e_fz_sh, e_fz_ow, e_sv_sh, e_sv_ow, e_ret, e_retK, e_retN, e_expr, e_exprK, e_pass, e_break, e_cont, e_asg, e_asgK, e_asgB, e_sseq, e_set, e_setK1, e_setB, e_setK2, e_setO, e_setJ, e_nxO, e_setOwn, e_soK_ow, e_soK_io, e_app, e_appB, e_appK, e_appO, e_par, e_parA, e_parK, e_okI, e_iVal, e_iValK, e_items_lst, e_items_tup, e_items_str, e_iZp, e_iZpK, e_zp_l, e_zp_t, e_iRv, e_iRvK, e_rv_l, e_rv_t, e_iRg1, e_iRg1K, e_rg1, e_iRg2, e_iRg2K, e_rg2, e_for, e_forK, e_for_nil, e_for_cons, e_forG, e_forS_nx, e_forS_cnt, e_forS_brk, e_forS_ret, e_forS_exc, e_gVar, e_gvB, e_gTup, e_gTupW, e_gCons, e_gNil, d_add_i, d_add_s, d_add_l, d_add_t, d_mul_i, d_mul_s, d_mul_l, d_fdiv, d_mod, d_pow, d_neg, d_iI, d_ord_i, d_ord_s, d_eq_i, d_eq_s, d_ne_i, d_ne_s, d_len_l, d_len_t, d_abs, d_gcd, d_max2, d_min2, d_tup_l, d_tup_t, d_ix_l, d_ix_t, d_atR, at_0, at_1, at_2, ixn_0, ixn_1, ixn_2, e_run, e_fin_ret, e_fin_nx, e_fin_exc, e_outR, e_outX, e_out_none, e_out_some, e_ioS, e_arg_none, e_arg_nil, e_arg_0, e_arg_s, e_ioD, e_call, e_calK1, e_calK2, e_calO_ret, e_calO_exc, e_callP, e_cpK, e_cpD, e_cpC_s, e_cpC_x, e_cpC_o, e_cpS, e_cpX, e_gnil, e_gv, e_gvK1, e_gvK2, e_gs, e_gsB, e_gsK, e_go, e_goK, e_ads_nil, e_ads_cons, e_adC, e_adC2, e_adD_v, e_adD_s, e_adD_o, e_adO, e_pi, e_piK, e_sl, e_slK1, e_slK2, e_slK3, e_slO, e_part_n, e_part_i, d_slice_l, d_slice_t, e_sl3, e_s3K1, e_s3K2, e_s3K3, e_s3K4, e_s3O, e_lc, e_lcK, e_lcB, e_lcR, e_yes, e_okW2, e_okWS_no, e_okWS_sh, eq_self, log_7, List.length_cons, List.length_nil, List.map_cons, List.map_nil, List.cons_append, List.nil_append, List.replicate_succ, List.replicate_zero, List.append_nil, List.getElem?_cons_zero, List.getElem?_cons_succ, List.getElem?_nil, List.set_cons_zero, List.set_cons_succ, Option.bind_some, Option.bind_none, Option.isSome_some, Nat.reduceAdd, Nat.reduceSub, Nat.reduceLT, Nat.reduceLeDiff, Nat.reduceEqDiff, Int.reduceAdd, Int.reduceMul, Int.reduceNeg, Int.reducePow, Int.reduceLT, Int.reduceLE, and_self, and_true, true_and, if_true, if_false, ↓reduceIte, Bool.not_true, Bool.not_false, decide_true, decide_false, decide_eq_true_eq, List.all_cons, List.all_nil, Bool.and_true, Bool.true_and, Bool.and_self, wipeE, adPl, Int.reduceToNat, rng_5, abs_10]), .inl (by (simp only [e_iEn, e_iEnK, e_enD, e_iZq, e_iZqK, e_zq_ll, e_zq_tt, e_zq_lt, e_zq_tl, e_asgT, e_asgTK, e_asgO, e_call0, List.reverse_cons, List.reverse_nil, e_cmpV, e_cvH, e_cvB, e_cvO, e_cvZ, e_join, e_jK1, e_jK2, e_len_s, e_whK_f, e_whK_t, e_whS, restE, List.getD_cons_zero, List.getD_cons_succ, List.getD_nil, d_pow_6, d_pow_12, d_pow_18, d_pow_30, e_OE_bind_ok, e_OE_bind_exc, e_OE_bindT_ok, e_OE_bindT_exc, e_OE_bindA_ok, e_OE_bindA_exc, e_OE_bindS_ok, e_OE_bindS_exc, e_OE_bindI_ok, e_OE_bindI_exc, e_OE_bindG_ok, e_OE_bindG_exc, e_OT_bind_ok, e_OT_bind_exc, e_OT_bindE_ok, e_OT_bindE_exc, e_OT_bindS_ok, e_OT_bindS_exc, e_OA_bind_ok, e_OA_bind_exc, e_OA_bindE_ok, e_OA_bindE_exc, e_OA_bindI_ok, e_OA_bindI_exc, e_OI_bindE_ok, e_OI_bindE_exc, e_OI_bindS_ok, e_OI_bindS_exc, e_OG_bind_ok, e_OG_bind_exc, e_OG_bindE_ok, e_OG_bindE_exc, e_seq_nx, e_seq_ret, e_seq_brk, e_seq_cnt, e_seq_exc, e_var, e_varK_sh, e_varK_ow, e_mv, e_mvK_sh, e_mvK_ow, e_c, e_okO, e_op2, e_opK1, e_opK2, e_un, e_unK, e_and, e_or, e_not, e_tru, e_andK_t, e_andK_f, e_orK_t, e_orK_f, e_notK, e_truK, e_if, e_tand, e_tor, e_tnot, e_sif, e_ifK_t, e_ifK_f, e_sifK_t, e_sifK_f, e_tandK_t, e_tandK_f, e_torK_t, e_torK_f, e_tnotK, e_nil, e_cons, e_consK1, e_consK2, e_tup, e_lst, e_cb, e_tupK, e_lstK, e_cbK, e_chain, e_chK1, e_chK2, e_chK3, e_chB_t, e_chB_f, e_ixV, e_ixH, e_ixVK, e_ixE_own, e_ixE_sh, e_atO, e_ownAt, e_ownS_ow, e_ownS_io, e_ownS_lst, e_ownS_tup, e_ownS_str, e_ownS_int, e_lenV, e_lenK_own, e_lenK_sh, e_here_no, e_noIo_no, e_Own_no, e_here_sh, e_noIo_sh, e_Own_sh, e_here_ow, e_noIo_ow, e_Own_ow, e_here_io, e_noIo_io, e_Own_io, e_fz_sh, e_fz_ow, e_sv_sh, e_sv_ow, e_ret, e_retK, e_retN, e_expr, e_exprK, e_pass, e_break, e_cont, e_asg, e_asgK, e_asgB, e_sseq, e_set, e_setK1, e_setB, e_setK2, e_setO, e_setJ, e_nxO, e_setOwn, e_soK_ow, e_soK_io, e_app, e_appB, e_appK, e_appO, e_par, e_parA, e_parK, e_okI, e_iVal, e_iValK, e_items_lst, e_items_tup, e_items_str, e_iZp, e_iZpK, e_zp_l, e_zp_t, e_iRv, e_iRvK, e_rv_l, e_rv_t, e_iRg1, e_iRg1K, e_rg1, e_iRg2, e_iRg2K, e_rg2, e_for, e_forK, e_for_nil, e_for_cons, e_forG, e_forS_nx, e_forS_cnt, e_forS_brk, e_forS_ret, e_forS_exc, e_gVar, e_gvB, e_gTup, e_gTupW, e_gCons, e_gNil, d_add_i, d_add_s, d_add_l, d_add_t, d_mul_i, d_mul_s, d_mul_l, d_fdiv, d_mod, d_pow, d_neg, d_iI, d_ord_i, d_ord_s, d_eq_i, d_eq_s, d_ne_i, d_ne_s, d_len_l, d_len_t, d_abs, d_gcd, d_max2, d_min2, d_tup_l, d_tup_t, d_ix_l, d_ix_t, d_atR, at_0, at_1, at_2, ixn_0, ixn_1, ixn_2, e_run, e_fin_ret, e_fin_nx, e_fin_exc, e_outR, e_outX, e_out_none, e_out_some, e_ioS, e_arg_none, e_arg_nil, e_arg_0, e_arg_s, e_ioD, e_call, e_calK1, e_calK2, e_calO_ret, e_calO_exc, e_callP, e_cpK, e_cpD, e_cpC_s, e_cpC_x, e_cpC_o, e_cpS, e_cpX, e_gnil, e_gv, e_gvK1, e_gvK2, e_gs, e_gsB, e_gsK, e_go, e_goK, e_ads_nil, e_ads_cons, e_adC, e_adC2, e_adD_v, e_adD_s, e_adD_o, e_adO, e_pi, e_piK, e_sl, e_slK1, e_slK2, e_slK3, e_slO, e_part_n, e_part_i, d_slice_l, d_slice_t, e_sl3, e_s3K1, e_s3K2, e_s3K3, e_s3K4, e_s3O, e_lc, e_lcK, e_lcB, e_lcR, e_yes, e_okW2, e_okWS_no, e_okWS_sh, eq_self, log_7, List.length_cons, List.length_nil, List.map_cons, List.map_nil, List.cons_append, List.nil_append, List.replicate_succ, List.replicate_zero, List.append_nil, List.getElem?_cons_zero, List.getElem?_cons_succ, List.getElem?_nil, List.set_cons_zero, List.set_cons_succ, Option.bind_some, Option.bind_none, Option.isSome_some, Nat.reduceAdd, Nat.reduceSub, Nat.reduceLT, Nat.reduceLeDiff, Nat.reduceEqDiff, Int.reduceAdd, Int.reduceMul, Int.reduceNeg, Int.reducePow, Int.reduceLT, Int.reduceLE, and_self, and_true, true_and, if_true, if_false, ↓reduceIte, Bool.not_true, Bool.not_false, decide_true, decide_false, decide_eq_true_eq, List.all_cons, List.all_nil, Bool.and_true, Bool.true_and, Bool.and_self, wipeE, adPl, Int.reduceToNat, rng_5, abs_10])), rfl⟩
    · exact ⟨_, _, _, _, by (simp only [e_iEn, e_iEnK, e_enD, e_iZq, e_iZqK, e_zq_ll, e_zq_tt, e_zq_lt, e_zq_tl, e_asgT, e_asgTK, e_asgO, e_call0, List.reverse_cons, List.reverse_nil, e_cmpV, e_cvH, e_cvB, e_cvO, e_cvZ, e_join, e_jK1, e_jK2, e_len_s, e_whK_f, e_whK_t, e_whS, restE, List.getD_cons_zero, List.getD_cons_succ, List.getD_nil, d_pow_6, d_pow_12, d_pow_18, d_pow_30, e_OE_bind_ok, e_OE_bind_exc, e_OE_bindT_ok, e_OE_bindT_exc, e_OE_bindA_ok, e_OE_bindA_exc, e_OE_bindS_ok, e_OE_bindS_exc, e_OE_bindI_ok, e_OE_bindI_exc, e_OE_bindG_ok, e_OE_bindG_exc, e_OT_bind_ok, e_OT_bind_exc, e_OT_bindE_ok, e_OT_bindE_exc, e_OT_bindS_ok, e_OT_bindS_exc, e_OA_bind_ok, e_OA_bind_exc, e_OA_bindE_ok, e_OA_bindE_exc, e_OA_bindI_ok, e_OA_bindI_exc, e_OI_bindE_ok, e_OI_bindE_exc, e_OI_bindS_ok, e_OI_bindS_exc, e_OG_bind_ok, e_OG_bind_exc, e_OG_bindE_ok, e_OG_bindE_exc, e_seq_nx, e_seq_ret, e_seq_brk, e_seq_cnt, e_seq_exc, e_var, e_varK_sh, e_varK_ow, e_mv, e_mvK_sh, e_mvK_ow, e_c, e_okO, e_op2, e_opK1, e_opK2, e_un, e_unK, e_and, e_or, e_not, e_tru, e_andK_t, e_andK_f, e_orK_t, e_orK_f, e_notK, e_truK, e_if, e_tand, e_tor, e_tnot, e_sif, e_ifK_t, e_ifK_f, e_sifK_t, e_sifK_f, e_tandK_t, e_tandK_f, e_torK_t, e_torK_f, e_tnotK, e_nil, e_cons, e_consK1, e_consK2, e_tup, e_lst, e_cb, e_tupK, e_lstK, e_cbK, e_chain, e_chK1, e_chK2, e_chK3, e_chB_t, e_chB_f, e_ixV, e_ixH, e_ixVK, e_ixE_own, e_ixE_sh, e_atO, e_ownAt, e_ownS_ow, e_ownS_io, e_ownS_lst, e_ownS_tup, e_ownS_str, e_ownS_int, e_lenV, e_lenK_own, e_lenK_sh, e_here_no, e_noIo_no, e_Own_no, e_here_sh, e_noIo_sh, e_Own_sh, e_here_ow, e_noIo_ow, e_Own_ow, e_here_io, e_noIo_io, e_Own_io, e_fz_sh, e_fz_ow, e_sv_sh, e_sv_ow, e_ret, e_retK, e_retN, e_expr, e_exprK, e_pass, e_break, e_cont, e_asg, e_asgK, e_asgB, e_sseq, e_set, e_setK1, e_setB, e_setK2, e_setO, e_setJ, e_nxO, e_setOwn, e_soK_ow, e_soK_io, e_app, e_appB, e_appK, e_appO, e_par, e_parA, e_parK, e_okI, e_iVal, e_iValK, e_items_lst, e_items_tup, e_items_str, e_iZp, e_iZpK, e_zp_l, e_zp_t, e_iRv, e_iRvK, e_rv_l, e_rv_t, e_iRg1, e_iRg1K, e_rg1, e_iRg2, e_iRg2K, e_rg2, e_for, e_forK, e_for_nil, e_for_cons, e_forG, e_forS_nx, e_forS_cnt, e_forS_brk, e_forS_ret, e_forS_exc, e_gVar, e_gvB, e_gTup, e_gTupW, e_gCons, e_gNil, d_add_i, d_add_s, d_add_l, d_add_t, d_mul_i, d_mul_s, d_mul_l, d_fdiv, d_mod, d_pow, d_neg, d_iI, d_ord_i, d_ord_s, d_eq_i, d_eq_s, d_ne_i, d_ne_s, d_len_l, d_len_t, d_abs, d_gcd, d_max2, d_min2, d_tup_l, d_tup_t, d_ix_l, d_ix_t, d_atR, at_0, at_1, at_2, ixn_0, ixn_1, ixn_2, e_run, e_fin_ret, e_fin_nx, e_fin_exc, e_outR, e_outX, e_out_none, e_out_some, e_ioS, e_arg_none, e_arg_nil, e_arg_0, e_arg_s, e_ioD, e_call, e_calK1, e_calK2, e_calO_ret, e_calO_exc, e_callP, e_cpK, e_cpD, e_cpC_s, e_cpC_x, e_cpC_o, e_cpS, e_cpX, e_gnil, e_gv, e_gvK1, e_gvK2, e_gs, e_gsB, e_gsK, e_go, e_goK, e_ads_nil, e_ads_cons, e_adC, e_adC2, e_adD_v, e_adD_s, e_adD_o, e_adO, e_pi, e_piK, e_sl, e_slK1, e_slK2, e_slK3, e_slO, e_part_n, e_part_i, d_slice_l, d_slice_t, e_sl3, e_s3K1, e_s3K2, e_s3K3, e_s3K4, e_s3O, e_lc, e_lcK, e_lcB, e_lcR, e_yes, e_okW2, e_okWS_no, e_okWS_sh, eq_self, log_7, List.length_cons, List.length_nil, List.map_cons, List.map_nil, List.cons_append, List.nil_append, List.replicate_succ, List.replicate_zero, List.append_nil, List.getElem?_cons_zero, List.getElem?_cons_succ, List.getElem?_nil, List.set_cons_zero, List.set_cons_succ, Option.bind_some, Option.bind_none, Option.isSome_some, Nat.reduceAdd, Nat.reduceSub, Nat.reduceLT, Nat.reduceLeDiff, Nat.reduceEqDiff, Int.reduceAdd, Int.reduceMul, Int.reduceNeg, Int.reducePow, Int.reduceLT, Int.reduceLE, and_self, and_true, true_and, if_true, if_false, ↓reduceIte, Bool.not_true, Bool.not_false, decide_true, decide_false, decide_eq_true_eq, List.all_cons, List.all_nil, Bool.and_true, Bool.true_and, Bool.and_self, wipeE, adPl, Int.reduceToNat, rng_5, abs_10]) <;> rfl, by (simp only [e_iEn, e_iEnK, e_enD, e_iZq, e_iZqK, e_zq_ll, e_zq_tt, e_zq_lt, e_zq_tl, e_asgT, e_asgTK, e_asgO, e_call0, List.reverse_cons, List.reverse_nil, e_cmpV, e_cvH, e_cvB, e_cvO, e_cvZ, e_join, e_jK1, e_jK2, e_len_s, e_whK_f, e_whK_t, e_whS, restE, List.getD_cons_zero, List.getD_cons_succ, List.getD_nil, d_pow_6, d_pow_12, d_pow_18, d_pow_30, e_OE_bind_ok, e_OE_bind_exc, e_OE_bindT_ok, e_OE_bindT_exc, e_OE_bindA_ok, e_OE_bindA_exc, e_OE_bindS_ok, e_OE_bindS_exc, e_OE_bindI_ok, e_OE_bindI_exc, e_OE_bindG_ok, e_OE_bindG_exc, e_OT_bind_ok, e_OT_bind_exc, e_OT_bindE_ok, e_OT_bindE_exc, e_OT_bindS_ok, e_OT_bindS_exc, e_OA_bind_ok, e_OA_bind_exc, e_OA_bindE_ok, e_OA_bindE_exc, e_OA_bindI_ok, e_OA_bindI_exc, e_OI_bindE_ok, e_OI_bindE_exc, e_OI_bindS_ok, e_OI_bindS_exc, e_OG_bind_ok, e_OG_bind_exc, e_OG_bindE_ok, e_OG_bindE_exc, e_seq_nx, e_seq_ret, e_seq_brk, e_seq_cnt, e_seq_exc, e_var, e_varK_sh, e_varK_ow, e_mv, e_mvK_sh, e_mvK_ow, e_c, e_okO, e_op2, e_opK1, e_opK2, e_un, e_unK, e_and, e_or, e_not, e_tru, e_andK_t, e_andK_f, e_orK_t, e_orK_f, e_notK, e_truK, e_if, e_tand, e_tor, e_tnot, e_sif, e_ifK_t, e_ifK_f, e_sifK_t, e_sifK_f, e_tandK_t, e_tandK_f, e_torK_t, e_torK_f, e_tnotK, e_nil, e_cons, e_consK1, e_consK2, e_tup, e_lst, e_cb, e_tupK, e_lstK, e_cbK, e_chain, e_chK1, e_chK2, e_chK3, e_chB_t, e_chB_f, e_ixV, e_ixH, e_ixVK, e_ixE_own, e_ixE_sh, e_atO, e_ownAt, e_ownS_ow, e_ownS_io, e_ownS_lst, e_ownS_tup, e_ownS_str, e_ownS_int, e_lenV, e_lenK_own, e_lenK_sh, e_here_no, e_noIo_no, e_Own_no, e_here_sh, e_noIo_sh, e_Own_sh, e_here_ow, e_noIo_ow, e_Own_ow, e_here_io, e_noIo_io, e_Own_io, e_fz_sh, e_fz_ow, e_sv_sh, e_sv_ow, e_ret, e_retK, e_retN, e_expr, e_exprK, e_pass, e_break, e_cont, e_asg, e_asgK, e_asgB, e_sseq, e_set, e_setK1, e_setB, e_setK2, e_setO, e_setJ, e_nxO, e_setOwn, e_soK_ow, e_soK_io, e_app, e_appB, e_appK, e_appO, e_par, e_parA, e_parK, e_okI, e_iVal, e_iValK, e_items_lst, e_items_tup, e_items_str, e_iZp, e_iZpK, e_zp_l, e_zp_t, e_iRv, e_iRvK, e_rv_l, e_rv_t, e_iRg1, e_iRg1K, e_rg1, e_iRg2, e_iRg2K, e_rg2, e_for, e_forK, e_for_nil, e_for_cons, e_forG, e_forS_nx, e_forS_cnt, e_forS_brk, e_forS_ret, e_forS_exc, e_gVar, e_gvB, e_gTup, e_gTupW, e_gCons, e_gNil, d_add_i, d_add_s, d_add_l, d_add_t, d_mul_i, d_mul_s, d_mul_l, d_fdiv, d_mod, d_pow, d_neg, d_iI, d_ord_i, d_ord_s, d_eq_i, d_eq_s, d_ne_i, d_ne_s, d_len_l, d_len_t, d_abs, d_gcd, d_max2, d_min2, d_tup_l, d_tup_t, d_ix_l, d_ix_t, d_atR, at_0, at_1, at_2, ixn_0, ixn_1, ixn_2, e_run, e_fin_ret, e_fin_nx, e_fin_exc, e_outR, e_outX, e_out_none, e_out_some, e_ioS, e_arg_none, e_arg_nil, e_arg_0, e_arg_s, e_ioD, e_call, e_calK1, e_calK2, e_calO_ret, e_calO_exc, e_callP, e_cpK, e_cpD, e_cpC_s, e_cpC_x, e_cpC_o, e_cpS, e_cpX, e_gnil, e_gv, e_gvK1, e_gvK2, e_gs, e_gsB, e_gsK, e_go, e_goK, e_ads_nil, e_ads_cons, e_adC, e_adC2, e_adD_v, e_adD_s, e_adD_o, e_adO, e_pi, e_piK, e_sl, e_slK1, e_slK2, e_slK3, e_slO, e_part_n, e_part_i, d_slice_l, d_slice_t, e_sl3, e_s3K1, e_s3K2, e_s3K3, e_s3K4, e_s3O, e_lc, e_lcK, e_lcB, e_lcR, e_yes, e_okW2, e_okWS_no, e_okWS_sh, eq_self, log_7, List.length_cons, List.length_nil, List.map_cons, List.map_nil, List.cons_append, List.nil_append, List.replicate_succ, List.replicate_zero, List.append_nil, List.getElem?_cons_zero, List.getElem?_cons_succ, List.getElem?_nil, List.set_cons_zero, List.set_cons_succ, Option.bind_some, Option.bind_none, Option.isSome_some, Nat.reduceAdd, Nat.reduceSub, Nat.reduceLT, Nat.reduceLeDiff, Nat.reduceEqDiff, Int.reduceAdd, Int.reduceMul, Int.reduceNeg, Int.reducePow, Int.reduceLT, Int.reduceLE, and_self, and_true, true_and, if_true, if_false, ↓reduceIte, Bool.not_true, Bool.not_false, decide_true, decide_false, decide_eq_true_eq, List.all_cons, List.all_nil, Bool.and_true, Bool.true_and, Bool.and_self, wipeE, adPl, Int.reduceToNat, rng_5, abs_10]) <;> rfl, by (simp only [e_iEn, e_iEnK, e_enD, e_iZq, e_iZqK, e_zq_ll, e_zq_tt, e_zq_lt, e_zq_tl, e_asgT, e_asgTK, e_asgO, e_call0, List.reverse_cons, List.reverse_nil, e_cmpV, e_cvH, e_cvB, e_cvO, e_cvZ, e_join, e_jK1, e_jK2, e_len_s, e_whK_f, e_whK_t, e_whS, restE, List.getD_cons_zero, List.getD_cons_succ, List.getD_nil, d_pow_6, d_pow_12, d_pow_18, d_pow_30, e_OE_bind_ok, e_OE_bind_exc, e_OE_bindT_ok, e_OE_bindT_exc, e_OE_bindA_ok, e_OE_bindA_exc, e_OE_bindS_ok, e_OE_bindS_exc, e_OE_bindI_ok, e_OE_bindI_exc, e_OE_bindG_ok, e_OE_bindG_exc, e_OT_bind_ok, e_OT_bind_exc, e_OT_bindE_ok, e_OT_bindE_exc, e_OT_bindS_ok, e_OT_bindS_exc, e_OA_bind_ok, e_OA_bind_exc, e_OA_bindE_ok, e_OA_bindE_exc, e_OA_bindI_ok, e_OA_bindI_exc, e_OI_bindE_ok, e_OI_bindE_exc, e_OI_bindS_ok, e_OI_bindS_exc, e_OG_bind_ok, e_OG_bind_exc, e_OG_bindE_ok, e_OG_bindE_exc, e_seq_nx, e_seq_ret, e_seq_brk, e_seq_cnt, e_seq_exc, e_var, e_varK_sh, e_varK_ow, e_mv, e_mvK_sh, e_mvK_ow, e_c, e_okO, e_op2, e_opK1, e_opK2, e_un, e_unK, e_and, e_or, e_not, e_tru, e_andK_t, e_andK_f, e_orK_t, e_orK_f, e_notK, e_truK, e_if, e_tand, e_tor, e_tnot, e_sif, e_ifK_t, e_ifK_f, e_sifK_t, e_sifK_f, e_tandK_t, e_tandK_f, e_torK_t, e_torK_f, e_tnotK, e_nil, e_cons, e_consK1, e_consK2, e_tup, e_lst, e_cb, e_tupK, e_lstK, e_cbK, e_chain, e_chK1, e_chK2, e_chK3, e_chB_t, e_chB_f, e_ixV, e_ixH, e_ixVK, e_ixE_own, e_ixE_sh, e_atO, e_ownAt, e_ownS_ow, e_ownS_io, e_ownS_lst, e_ownS_tup, e_ownS_str, e_ownS_int, e_lenV, e_lenK_own, e_lenK_sh, e_here_no, e_noIo_no, e_Own_no, e_here_sh, e_noIo_sh, e_Own_sh, e_here_ow, e_noIo_ow, e_Own_ow, e_here_io, e_noIo_io, e_Own_io, e_fz_sh, e_fz_ow, e_sv_sh, e_sv_ow, e_ret, e_retK, e_retN, e_expr, e_exprK, e_pass, e_break, e_cont, e_asg, e_asgK, e_asgB, e_sseq, e_set, e_setK1, e_setB, e_setK2, e_setO, e_setJ, e_nxO, e_setOwn, e_soK_ow, e_soK_io, e_app, e_appB, e_appK, e_appO, e_par, e_parA, e_parK, e_okI, e_iVal, e_iValK, e_items_lst, e_items_tup, e_items_str, e_iZp, e_iZpK, e_zp_l, e_zp_t, e_iRv, e_iRvK, e_rv_l, e_rv_t, e_iRg1, e_iRg1K, e_rg1, e_iRg2, e_iRg2K, e_rg2, e_for, e_forK, e_for_nil, e_for_cons, e_forG, e_forS_nx, e_forS_cnt, e_forS_brk, e_forS_ret, e_forS_exc, e_gVar, e_gvB, e_gTup, e_gTupW, e_gCons, e_gNil, d_add_i, d_add_s, d_add_l, d_add_t, d_mul_i, d_mul_s, d_mul_l, d_fdiv, d_mod, d_pow, d_neg, d_iI, d_ord_i, d_ord_s, d_eq_i, d_eq_s, d_ne_i, d_ne_s, d_len_l, d_len_t, d_abs, d_gcd, d_max2, d_min2, d_tup_l, d_tup_t, d_ix_l, d_ix_t, d_atR, at_0, at_1, at_2, ixn_0, ixn_1, ixn_2, e_run, e_fin_ret, e_fin_nx, e_fin_exc, e_outR, e_outX, e_out_none, e_out_some, e_ioS, e_arg_none, e_arg_nil, e_arg_0, e_arg_s, e_ioD, e_call, e_calK1, e_calK2, e_calO_ret, e_calO_exc, e_callP, e_cpK, e_cpD, e_cpC_s, e_cpC_x, e_cpC_o, e_cpS, e_cpX, e_gnil, e_gv, e_gvK1, e_gvK2, e_gs, e_gsB, e_gsK, e_go, e_goK, e_ads_nil, e_ads_cons, e_adC, e_adC2, e_adD_v, e_adD_s, e_adD_o, e_adO, e_pi, e_piK, e_sl, e_slK1, e_slK2, e_slK3, e_slO, e_part_n, e_part_i, d_slice_l, d_slice_t, e_sl3, e_s3K1, e_s3K2, e_s3K3, e_s3K4, e_s3O, e_lc, e_lcK, e_lcB, e_lcR, e_yes, e_okW2, e_okWS_no, e_okWS_sh, eq_self, log_7, List.length_cons, List.length_nil, List.map_cons, List.map_nil, List.cons_append, List.nil_append, List.replicate_succ, List.replicate_zero, List.append_nil, List.getElem?_cons_zero, List.getElem?_cons_succ, List.getElem?_nil, List.set_cons_zero, List.set_cons_succ, Option.bind_some, Option.bind_none, Option.isSome_some, Nat.reduceAdd, Nat.reduceSub, Nat.reduceLT, Nat.reduceLeDiff, Nat.reduceEqDiff, Int.reduceAdd, Int.reduceMul, Int.reduceNeg, Int.reducePow, Int.reduceLT, Int.reduceLE, and_self, and_true, true_and, if_true, if_false, ↓reduceIte, Bool.not_true, Bool.not_false, decide_true, decide_false, decide_eq_true_eq, List.all_cons, List.all_nil, Bool.and_true, Bool.true_and, Bool.and_self, wipeE, adPl, Int.reduceToNat, rng_5, abs_10, ep, er]) <;> rfl, by (simp only [e_iEn, e_iEnK, e_enD, e_iZq, e_iZqK, e_zq_ll, e_zq_tt, e_zq_lt, e_zq_tl, e_asgT, e_asgTK, e_asgO, e_call0, List.reverse_cons, List.reverse_nil, e_cmpV, e_cvH, e_cvB, e_cvO, e_cvZ, e_join, e_jK1, e_jK2, e_len_s, e_whK_f, e_whK_t, e_whS, restE, List.getD_cons_zero, List.getD_cons_succ, List.getD_nil, d_pow_6, d_pow_12, d_pow_18, d_pow_30, e_OE_bind_ok, e_OE_bind_exc, e_OE_bindT_ok, e_OE_bindT_exc, e_OE_bindA_ok, e_OE_bindA_exc, e_OE_bindS_ok, e_OE_bindS_exc, e_OE_bindI_ok, e_OE_bindI_exc, e_OE_bindG_ok, e_OE_bindG_exc, e_OT_bind_ok, e_OT_bind_exc, e_OT_bindE_ok, e_OT_bindE_exc, e_OT_bindS_ok, e_OT_bindS_exc, e_OA_bind_ok, e_OA_bind_exc, e_OA_bindE_ok, e_OA_bindE_exc, e_OA_bindI_ok, e_OA_bindI_exc, e_OI_bindE_ok, e_OI_bindE_exc, e_OI_bindS_ok, e_OI_bindS_exc, e_OG_bind_ok, e_OG_bind_exc, e_OG_bindE_ok, e_OG_bindE_exc, e_seq_nx, e_seq_ret, e_seq_brk, e_seq_cnt, e_seq_exc, e_var, e_varK_sh, e_varK_ow, e_mv, e_mvK_sh, e_mvK_ow, e_c, e_okO, e_op2, e_opK1, e_opK2, e_un, e_unK, e_and, e_or, e_not, e_tru, e_andK_t, e_andK_f, e_orK_t, e_orK_f, e_notK, e_truK, e_if, e_tand, e_tor, e_tnot, e_sif, e_ifK_t, e_ifK_f, e_sifK_t, e_sifK_f, e_tandK_t, e_tandK_f, e_torK_t, e_torK_f, e_tnotK, e_nil, e_cons, e_consK1, e_consK2, e_tup, e_lst, e_cb, e_tupK, e_lstK, e_cbK, e_chain, e_chK1, e_chK2, e_chK3, e_chB_t, e_chB_f, e_ixV, e_ixH, e_ixVK, e_ixE_own, e_ixE_sh, e_atO, e_ownAt, e_ownS_ow, e_ownS_io, e_ownS_lst, e_ownS_tup, e_ownS_str, e_ownS_int, e_lenV, e_lenK_own, e_lenK_sh, e_here_no, e_noIo_no, e_Own_no, e_here_sh, e_noIo_sh, e_Own_sh, e_here_ow, e_noIo_ow, e_Own_ow, e_here_io, e_noIo_io, e_Own_io, e_fz_sh, e_fz_ow, e_sv_sh, e_sv_ow, e_ret, e_retK, e_retN, e_expr, e_exprK, e_pass, e_break, e_cont, e_asg, e_asgK, e_asgB, e_sseq, e_set, e_setK1, e_setB, e_setK2, e_setO, e_setJ, e_nxO, e_setOwn, e_soK_ow, e_soK_io, e_app, e_appB, e_appK, e_appO, e_par, e_parA, e_parK, e_okI, e_iVal, e_iValK, e_items_lst, e_items_tup, e_items_str, e_iZp, e_iZpK, e_zp_l, e_zp_t, e_iRv, e_iRvK, e_rv_l, e_rv_t, e_iRg1, e_iRg1K, e_rg1, e_iRg2, e_iRg2K, e_rg2, e_for, e_forK, e_for_nil, e_for_cons, e_forG, e_forS_nx, e_forS_cnt, e_forS_brk, e_forS_ret, e_forS_exc, e_gVar, e_gvB, e_gTup, e_gTupW, e_gCons, e_gNil, d_add_i, d_add_s, d_add_l, d_add_t, d_mul_i, d_mul_s, d_mul_l, d_fdiv, d_mod, d_pow, d_neg, d_iI, d_ord_i, d_ord_s, d_eq_i, d_eq_s, d_ne_i, d_ne_s, d_len_l, d_len_t, d_abs, d_gcd, d_max2, d_min2, d_tup_l, d_tup_t, d_ix_l, d_ix_t, d_atR, at_0, at_1, at_2, ixn_0, ixn_1, ixn_2, e_run, e_fin_ret, e_fin_nx, e_fin_exc, e_outR, e_outX, e_out_none, e_out_some, e_ioS, e_arg_none, e_arg_nil, e_arg_0, e_arg_s, e_ioD, e_call, e_calK1, e_calK2, e_calO_ret, e_calO_exc, e_callP, e_cpK, e_cpD, e_cpC_s, e_cpC_x, e_cpC_o, e_cpS, e_cpX, e_gnil, e_gv, e_gvK1, e_gvK2, e_gs, e_gsB, e_gsK, e_go, e_goK, e_ads_nil, e_ads_cons, e_adC, e_adC2, e_adD_v, e_adD_s, e_adD_o, e_adO, e_pi, e_piK, e_sl, e_slK1, e_slK2, e_slK3, e_slO, e_part_n, e_part_i, d_slice_l, d_slice_t, e_sl3, e_s3K1, e_s3K2, e_s3K3, e_s3K4, e_s3O, e_lc, e_lcK, e_lcB, e_lcR, e_yes, e_okW2, e_okWS_no, e_okWS_sh, eq_self, log_7, List.length_cons, List.length_nil, List.map_cons, List.map_nil, List.cons_append, List.nil_append, List.replicate_succ, List.replicate_zero, List.append_nil, List.getElem?_cons_zero, List.getElem?_cons_succ, List.getElem?_nil, List.set_cons_zero, List.set_cons_succ, Option.bind_some, Option.bind_none, Option.isSome_some, Nat.reduceAdd, Nat.reduceSub, Nat.reduceLT, Nat.reduceLeDiff, Nat.reduceEqDiff, Int.reduceAdd, Int.reduceMul, Int.reduceNeg, Int.reducePow, Int.reduceLT, Int.reduceLE, and_self, and_true, true_and, if_true, if_false, ↓reduceIte, Bool.not_true, Bool.not_false, decide_true, decide_false, decide_eq_true_eq, List.all_cons, List.all_nil, Bool.and_true, Bool.true_and, Bool.and_self, wipeE, adPl, Int.reduceToNat, rng_5, abs_10]), .inl (by (simp only [e_iEn, e_iEnK, e_enD, e_iZq, e_iZqK, e_zq_ll, e_zq_tt, e_zq_lt, e_zq_tl, e_asgT, e_asgTK, e_asgO, e_call0, List.reverse_cons, List.reverse_nil, e_cmpV, e_cvH, e_cvB, e_cvO, e_cvZ, e_join, e_jK1, e_jK2, e_len_s, e_whK_f, e_whK_t, e_whS, restE, List.getD_cons_zero, List.getD_cons_succ, List.getD_nil, d_pow_6, d_pow_12, d_pow_18, d_pow_30, e_OE_bind_ok, e_OE_bind_exc, e_OE_bindT_ok, e_OE_bindT_exc, e_OE_bindA_ok, e_OE_bindA_exc, e_OE_bindS_ok, e_OE_bindS_exc, e_OE_bindI_ok, e_OE_bindI_exc, e_OE_bindG_ok, e_OE_bindG_exc, e_OT_bind_ok, e_OT_bind_exc, e_OT_bindE_ok, e_OT_bindE_exc, e_OT_bindS_ok, e_OT_bindS_exc, e_OA_bind_ok, e_OA_bind_exc, e_OA_bindE_ok, e_OA_bindE_exc, e_OA_bindI_ok, e_OA_bindI_exc, e_OI_bindE_ok, e_OI_bindE_exc, e_OI_bindS_ok, e_OI_bindS_exc, e_OG_bind_ok, e_OG_bind_exc, e_OG_bindE_ok, e_OG_bindE_exc, e_seq_nx, e_seq_ret, e_seq_brk, e_seq_cnt, e_seq_exc, e_var, e_varK_sh, e_varK_ow, e_mv, e_mvK_sh, e_mvK_ow, e_c, e_okO, e_op2, e_opK1, e_opK2, e_un, e_unK, e_and, e_or, e_not, e_tru, e_andK_t, e_andK_f, e_orK_t, e_orK_f, e_notK, e_truK, e_if, e_tand, e_tor, e_tnot, e_sif, e_ifK_t, e_ifK_f, e_sifK_t, e_sifK_f, e_tandK_t, e_tandK_f, e_torK_t, e_torK_f, e_tnotK, e_nil, e_cons, e_consK1, e_consK2, e_tup, e_lst, e_cb, e_tupK, e_lstK, e_cbK, e_chain, e_chK1, e_chK2, e_chK3, e_chB_t, e_chB_f, e_ixV, e_ixH, e_ixVK, e_ixE_own, e_ixE_sh, e_atO, e_ownAt, e_ownS_ow, e_ownS_io, e_ownS_lst, e_ownS_tup, e_ownS_str, e_ownS_int, e_lenV, e_lenK_own, e_lenK_sh, e_here_no, e_noIo_no, e_Own_no, e_here_sh, e_noIo_sh, e_Own_sh, e_here_ow, e_noIo_ow, e_Own_ow, e_here_io, e_noIo_io, e_Own_io, e_fz_sh, e_fz_ow, e_sv_sh, e_sv_ow, e_ret, e_retK, e_retN, e_expr, e_exprK, e_pass, e_break, e_cont, e_asg, e_asgK, e_asgB, e_sseq, e_set, e_setK1, e_setB, e_setK2, e_setO, e_setJ, e_nxO, e_setOwn, e_soK_ow, e_soK_io, e_app, e_appB, e_appK, e_appO, e_par, e_parA, e_parK, e_okI, e_iVal, e_iValK, e_items_lst, e_items_tup, e_items_str, e_iZp, e_iZpK, e_zp_l, e_zp_t, e_iRv, e_iRvK, e_rv_l, e_rv_t, e_iRg1, e_iRg1K, e_rg1, e_iRg2, e_iRg2K, e_rg2, e_for, e_forK, e_for_nil, e_for_cons, e_forG, e_forS_nx, e_forS_cnt, e_forS_brk, e_forS_ret, e_forS_exc, e_gVar, e_gvB, e_gTup, e_gTupW, e_gCons, e_gNil, d_add_i, d_add_s, d_add_l, d_add_t, d_mul_i, d_mul_s, d_mul_l, d_fdiv, d_mod, d_pow, d_neg, d_iI, d_ord_i, d_ord_s, d_eq_i, d_eq_s, d_ne_i, d_ne_s, d_len_l, d_len_t, d_abs, d_gcd, d_max2, d_min2, d_tup_l, d_tup_t, d_ix_l, d_ix_t, d_atR, at_0, at_1, at_2, ixn_0, ixn_1, ixn_2, e_run, e_fin_ret, e_fin_nx, e_fin_exc, e_outR, e_outX, e_out_none, e_out_some, e_ioS, e_arg_none, e_arg_nil, e_arg_0, e_arg_s, e_ioD, e_call, e_calK1, e_calK2, e_calO_ret, e_calO_exc, e_callP, e_cpK, e_cpD, e_cpC_s, e_cpC_x, e_cpC_o, e_cpS, e_cpX, e_gnil, e_gv, e_gvK1, e_gvK2, e_gs, e_gsB, e_gsK, e_go, e_goK, e_ads_nil, e_ads_cons, e_adC, e_adC2, e_adD_v, e_adD_s, e_adD_o, e_adO, e_pi, e_piK, e_sl, e_slK1, e_slK2, e_slK3, e_slO, e_part_n, e_part_i, d_slice_l, d_slice_t, e_sl3, e_s3K1, e_s3K2, e_s3K3, e_s3K4, e_s3O, e_lc, e_lcK, e_lcB, e_lcR, e_yes, e_okW2, e_okWS_no, e_okWS_sh, eq_self, log_7, List.length_cons, List.length_nil, List.map_cons, List.map_nil, List.cons_append, List.nil_append, List.replicate_succ, List.replicate_zero, List.append_nil, List.getElem?_cons_zero, List.getElem?_cons_succ, List.getElem?_nil, List.set_cons_zero, List.set_cons_succ, Option.bind_some, Option.bind_none, Option.isSome_some, Nat.reduceAdd, Nat.reduceSub, Nat.reduceLT, Nat.reduceLeDiff, Nat.reduceEqDiff, Int.reduceAdd, Int.reduceMul, Int.reduceNeg, Int.reducePow, Int.reduceLT, Int.reduceLE, and_self, and_true, true_and, if_true, if_false, ↓reduceIte, Bool.not_true, Bool.not_false, decide_true, decide_false, decide_eq_true_eq, List.all_cons, List.all_nil, Bool.and_true, Bool.true_and, Bool.and_self, wipeE, adPl, Int.reduceToNat, rng_5, abs_10])), rfl⟩)
  have hb : bolsD rs = some (rs.map fun _ => true) := by
    clear q1
    generalize rngD 0 cs.length = ds at q3
    induction q3 with
    | nil => rfl
    | cons h _ ih =>
      subst h
      simp only [bolsD, ih, List.map_cons, Option.map_some]
  have ha : bolF (fun bs => bs.all id) [.lst rs] = some (.sh (.bl true)) := by
    unfold bolF
    dsimp only
    rw [hb]
    show some (R.sh (D.bl ((rs.map fun _ => true).all id))) = _
    congr 3
    simp
  simp only [f_law, F_law, e_iEn, e_iEnK, e_enD, e_iZq, e_iZqK, e_zq_ll, e_zq_tt, e_zq_lt, e_zq_tl, e_asgT, e_asgTK, e_asgO, e_call0, List.reverse_cons, List.reverse_nil, e_cmpV, e_cvH, e_cvB, e_cvO, e_cvZ, e_join, e_jK1, e_jK2, e_len_s, e_whK_f, e_whK_t, e_whS, restE, List.getD_cons_zero, List.getD_cons_succ, List.getD_nil, d_pow_6, d_pow_12, d_pow_18, d_pow_30, e_OE_bind_ok, e_OE_bind_exc, e_OE_bindT_ok, e_OE_bindT_exc, e_OE_bindA_ok, e_OE_bindA_exc, e_OE_bindS_ok, e_OE_bindS_exc, e_OE_bindI_ok, e_OE_bindI_exc, e_OE_bindG_ok, e_OE_bindG_exc, e_OT_bind_ok, e_OT_bind_exc, e_OT_bindE_ok, e_OT_bindE_exc, e_OT_bindS_ok, e_OT_bindS_exc, e_OA_bind_ok, e_OA_bind_exc, e_OA_bindE_ok, e_OA_bindE_exc, e_OA_bindI_ok, e_OA_bindI_exc, e_OI_bindE_ok, e_OI_bindE_exc, e_OI_bindS_ok, e_OI_bindS_exc, e_OG_bind_ok, e_OG_bind_exc, e_OG_bindE_ok, e_OG_bindE_exc, e_seq_nx, e_seq_ret, e_seq_brk, e_seq_cnt, e_seq_exc, e_var, e_varK_sh, e_varK_ow, e_mv, e_mvK_sh, e_mvK_ow, e_c, e_okO, e_op2, e_opK1, e_opK2, e_un, e_unK, e_and, e_or, e_not, e_tru, e_andK_t, e_andK_f, e_orK_t, e_orK_f, e_notK, e_truK, e_if, e_tand, e_tor, e_tnot, e_sif, e_ifK_t, e_ifK_f, e_sifK_t, e_sifK_f, e_tandK_t, e_tandK_f, e_torK_t, e_torK_f, e_tnotK, e_nil, e_cons, e_consK1, e_consK2, e_tup, e_lst, e_cb, e_tupK, e_lstK, e_cbK, e_chain, e_chK1, e_chK2, e_chK3, e_chB_t, e_chB_f, e_ixV, e_ixH, e_ixVK, e_ixE_own, e_ixE_sh, e_atO, e_ownAt, e_ownS_ow, e_ownS_io, e_ownS_lst, e_ownS_tup, e_ownS_str, e_ownS_int, e_lenV, e_lenK_own, e_lenK_sh, e_here_no, e_noIo_no, e_Own_no, e_here_sh, e_noIo_sh, e_Own_sh, e_here_ow, e_noIo_ow, e_Own_ow, e_here_io, e_noIo_io, e_Own_io, e_fz_sh, e_fz_ow, e_sv_sh, e_sv_ow, e_ret, e_retK, e_retN, e_expr, e_exprK, e_pass, e_break, e_cont, e_asg, e_asgK, e_asgB, e_sseq, e_set, e_setK1, e_setB, e_setK2, e_setO, e_setJ, e_nxO, e_setOwn, e_soK_ow, e_soK_io, e_app, e_appB, e_appK, e_appO, e_par, e_parA, e_parK, e_okI, e_iVal, e_iValK, e_items_lst, e_items_tup, e_items_str, e_iZp, e_iZpK, e_zp_l, e_zp_t, e_iRv, e_iRvK, e_rv_l, e_rv_t, e_iRg1, e_iRg1K, e_rg1, e_iRg2, e_iRg2K, e_rg2, e_for, e_forK, e_for_nil, e_for_cons, e_forG, e_forS_nx, e_forS_cnt, e_forS_brk, e_forS_ret, e_forS_exc, e_gVar, e_gvB, e_gTup, e_gTupW, e_gCons, e_gNil, d_add_i, d_add_s, d_add_l, d_add_t, d_mul_i, d_mul_s, d_mul_l, d_fdiv, d_mod, d_pow, d_neg, d_iI, d_ord_i, d_ord_s, d_eq_i, d_eq_s, d_ne_i, d_ne_s, d_len_l, d_len_t, d_abs, d_gcd, d_max2, d_min2, d_tup_l, d_tup_t, d_ix_l, d_ix_t, d_atR, at_0, at_1, at_2, ixn_0, ixn_1, ixn_2, e_run, e_fin_ret, e_fin_nx, e_fin_exc, e_outR, e_outX, e_out_none, e_out_some, e_ioS, e_arg_none, e_arg_nil, e_arg_0, e_arg_s, e_ioD, e_call, e_calK1, e_calK2, e_calO_ret, e_calO_exc, e_callP, e_cpK, e_cpD, e_cpC_s, e_cpC_x, e_cpC_o, e_cpS, e_cpX, e_gnil, e_gv, e_gvK1, e_gvK2, e_gs, e_gsB, e_gsK, e_go, e_goK, e_ads_nil, e_ads_cons, e_adC, e_adC2, e_adD_v, e_adD_s, e_adD_o, e_adO, e_pi, e_piK, e_sl, e_slK1, e_slK2, e_slK3, e_slO, e_part_n, e_part_i, d_slice_l, d_slice_t, e_sl3, e_s3K1, e_s3K2, e_s3K3, e_s3K4, e_s3O, e_lc, e_lcK, e_lcB, e_lcR, e_yes, e_okW2, e_okWS_no, e_okWS_sh, eq_self, log_7, List.length_cons, List.length_nil, List.map_cons, List.map_nil, List.cons_append, List.nil_append, List.replicate_succ, List.replicate_zero, List.append_nil, List.getElem?_cons_zero, List.getElem?_cons_succ, List.getElem?_nil, List.set_cons_zero, List.set_cons_succ, Option.bind_some, Option.bind_none, Option.isSome_some, Nat.reduceAdd, Nat.reduceSub, Nat.reduceLT, Nat.reduceLeDiff, Nat.reduceEqDiff, Int.reduceAdd, Int.reduceMul, Int.reduceNeg, Int.reducePow, Int.reduceLT, Int.reduceLE, and_self, and_true, true_and, if_true, if_false, ↓reduceIte, Bool.not_true, Bool.not_false, decide_true, decide_false, decide_eq_true_eq, List.all_cons, List.all_nil, Bool.and_true, Bool.true_and, Bool.and_self, wipeE, adPl, Int.reduceToNat, rng_5, abs_10, e1, len_ints]
  rw [if_pos (by omega)]
  simp only [e_iEn, e_iEnK, e_enD, e_iZq, e_iZqK, e_zq_ll, e_zq_tt, e_zq_lt, e_zq_tl, e_asgT, e_asgTK, e_asgO, e_call0, List.reverse_cons, List.reverse_nil, e_cmpV, e_cvH, e_cvB, e_cvO, e_cvZ, e_join, e_jK1, e_jK2, e_len_s, e_whK_f, e_whK_t, e_whS, restE, List.getD_cons_zero, List.getD_cons_succ, List.getD_nil, d_pow_6, d_pow_12, d_pow_18, d_pow_30, e_OE_bind_ok, e_OE_bind_exc, e_OE_bindT_ok, e_OE_bindT_exc, e_OE_bindA_ok, e_OE_bindA_exc, e_OE_bindS_ok, e_OE_bindS_exc, e_OE_bindI_ok, e_OE_bindI_exc, e_OE_bindG_ok, e_OE_bindG_exc, e_OT_bind_ok, e_OT_bind_exc, e_OT_bindE_ok, e_OT_bindE_exc, e_OT_bindS_ok, e_OT_bindS_exc, e_OA_bind_ok, e_OA_bind_exc, e_OA_bindE_ok, e_OA_bindE_exc, e_OA_bindI_ok, e_OA_bindI_exc, e_OI_bindE_ok, e_OI_bindE_exc, e_OI_bindS_ok, e_OI_bindS_exc, e_OG_bind_ok, e_OG_bind_exc, e_OG_bindE_ok, e_OG_bindE_exc, e_seq_nx, e_seq_ret, e_seq_brk, e_seq_cnt, e_seq_exc, e_var, e_varK_sh, e_varK_ow, e_mv, e_mvK_sh, e_mvK_ow, e_c, e_okO, e_op2, e_opK1, e_opK2, e_un, e_unK, e_and, e_or, e_not, e_tru, e_andK_t, e_andK_f, e_orK_t, e_orK_f, e_notK, e_truK, e_if, e_tand, e_tor, e_tnot, e_sif, e_ifK_t, e_ifK_f, e_sifK_t, e_sifK_f, e_tandK_t, e_tandK_f, e_torK_t, e_torK_f, e_tnotK, e_nil, e_cons, e_consK1, e_consK2, e_tup, e_lst, e_cb, e_tupK, e_lstK, e_cbK, e_chain, e_chK1, e_chK2, e_chK3, e_chB_t, e_chB_f, e_ixV, e_ixH, e_ixVK, e_ixE_own, e_ixE_sh, e_atO, e_ownAt, e_ownS_ow, e_ownS_io, e_ownS_lst, e_ownS_tup, e_ownS_str, e_ownS_int, e_lenV, e_lenK_own, e_lenK_sh, e_here_no, e_noIo_no, e_Own_no, e_here_sh, e_noIo_sh, e_Own_sh, e_here_ow, e_noIo_ow, e_Own_ow, e_here_io, e_noIo_io, e_Own_io, e_fz_sh, e_fz_ow, e_sv_sh, e_sv_ow, e_ret, e_retK, e_retN, e_expr, e_exprK, e_pass, e_break, e_cont, e_asg, e_asgK, e_asgB, e_sseq, e_set, e_setK1, e_setB, e_setK2, e_setO, e_setJ, e_nxO, e_setOwn, e_soK_ow, e_soK_io, e_app, e_appB, e_appK, e_appO, e_par, e_parA, e_parK, e_okI, e_iVal, e_iValK, e_items_lst, e_items_tup, e_items_str, e_iZp, e_iZpK, e_zp_l, e_zp_t, e_iRv, e_iRvK, e_rv_l, e_rv_t, e_iRg1, e_iRg1K, e_rg1, e_iRg2, e_iRg2K, e_rg2, e_for, e_forK, e_for_nil, e_for_cons, e_forG, e_forS_nx, e_forS_cnt, e_forS_brk, e_forS_ret, e_forS_exc, e_gVar, e_gvB, e_gTup, e_gTupW, e_gCons, e_gNil, d_add_i, d_add_s, d_add_l, d_add_t, d_mul_i, d_mul_s, d_mul_l, d_fdiv, d_mod, d_pow, d_neg, d_iI, d_ord_i, d_ord_s, d_eq_i, d_eq_s, d_ne_i, d_ne_s, d_len_l, d_len_t, d_abs, d_gcd, d_max2, d_min2, d_tup_l, d_tup_t, d_ix_l, d_ix_t, d_atR, at_0, at_1, at_2, ixn_0, ixn_1, ixn_2, e_run, e_fin_ret, e_fin_nx, e_fin_exc, e_outR, e_outX, e_out_none, e_out_some, e_ioS, e_arg_none, e_arg_nil, e_arg_0, e_arg_s, e_ioD, e_call, e_calK1, e_calK2, e_calO_ret, e_calO_exc, e_callP, e_cpK, e_cpD, e_cpC_s, e_cpC_x, e_cpC_o, e_cpS, e_cpX, e_gnil, e_gv, e_gvK1, e_gvK2, e_gs, e_gsB, e_gsK, e_go, e_goK, e_ads_nil, e_ads_cons, e_adC, e_adC2, e_adD_v, e_adD_s, e_adD_o, e_adO, e_pi, e_piK, e_sl, e_slK1, e_slK2, e_slK3, e_slO, e_part_n, e_part_i, d_slice_l, d_slice_t, e_sl3, e_s3K1, e_s3K2, e_s3K3, e_s3K4, e_s3O, e_lc, e_lcK, e_lcB, e_lcR, e_yes, e_okW2, e_okWS_no, e_okWS_sh, eq_self, log_7, List.length_cons, List.length_nil, List.map_cons, List.map_nil, List.cons_append, List.nil_append, List.replicate_succ, List.replicate_zero, List.append_nil, List.getElem?_cons_zero, List.getElem?_cons_succ, List.getElem?_nil, List.set_cons_zero, List.set_cons_succ, Option.bind_some, Option.bind_none, Option.isSome_some, Nat.reduceAdd, Nat.reduceSub, Nat.reduceLT, Nat.reduceLeDiff, Nat.reduceEqDiff, Int.reduceAdd, Int.reduceMul, Int.reduceNeg, Int.reducePow, Int.reduceLT, Int.reduceLE, and_self, and_true, true_and, if_true, if_false, ↓reduceIte, Bool.not_true, Bool.not_false, decide_true, decide_false, decide_eq_true_eq, List.all_cons, List.all_nil, Bool.and_true, Bool.true_and, Bool.and_self, wipeE, adPl, Int.reduceToNat, rng_5, abs_10, Int.toNat_natCast]
  rw [q1]
  rcases q2 with rfl | rfl <;> simp only [e_iEn, e_iEnK, e_enD, e_iZq, e_iZqK, e_zq_ll, e_zq_tt, e_zq_lt, e_zq_tl, e_asgT, e_asgTK, e_asgO, e_call0, List.reverse_cons, List.reverse_nil, e_cmpV, e_cvH, e_cvB, e_cvO, e_cvZ, e_join, e_jK1, e_jK2, e_len_s, e_whK_f, e_whK_t, e_whS, restE, List.getD_cons_zero, List.getD_cons_succ, List.getD_nil, d_pow_6, d_pow_12, d_pow_18, d_pow_30, e_OE_bind_ok, e_OE_bind_exc, e_OE_bindT_ok, e_OE_bindT_exc, e_OE_bindA_ok, e_OE_bindA_exc, e_OE_bindS_ok, e_OE_bindS_exc, e_OE_bindI_ok, e_OE_bindI_exc, e_OE_bindG_ok, e_OE_bindG_exc, e_OT_bind_ok, e_OT_bind_exc, e_OT_bindE_ok, e_OT_bindE_exc, e_OT_bindS_ok, e_OT_bindS_exc, e_OA_bind_ok, e_OA_bind_exc, e_OA_bindE_ok, e_OA_bindE_exc, e_OA_bindI_ok, e_OA_bindI_exc, e_OI_bindE_ok, e_OI_bindE_exc, e_OI_bindS_ok, e_OI_bindS_exc, e_OG_bind_ok, e_OG_bind_exc, e_OG_bindE_ok, e_OG_bindE_exc, e_seq_nx, e_seq_ret, e_seq_brk, e_seq_cnt, e_seq_exc, e_var, e_varK_sh, e_varK_ow, e_mv, e_mvK_sh, e_mvK_ow, e_c, e_okO, e_op2, e_opK1, e_opK2, e_un, e_unK, e_and, e_or, e_not, e_tru, e_andK_t, e_andK_f, e_orK_t, e_orK_f, e_notK, e_truK, e_if, e_tand, e_tor, e_tnot, e_sif, e_ifK_t, e_ifK_f, e_sifK_t, e_sifK_f, e_tandK_t, e_tandK_f, e_torK_t, e_torK_f, e_tnotK, e_nil, e_cons, e_consK1, e_consK2, e_tup, e_lst, e_cb, e_tupK, e_lstK, e_cbK, e_chain, e_chK1, e_chK2, e_chK3, e_chB_t, e_chB_f, e_ixV, e_ixH, e_ixVK, e_ixE_own, e_ixE_sh, e_atO, e_ownAt, e_ownS_ow, e_ownS_io, e_ownS_lst, e_ownS_tup, e_ownS_str, e_ownS_int, e_lenV, e_lenK_own, e_lenK_sh, e_here_no, e_noIo_no, e_Own_no, e_here_sh, e_noIo_sh, e_Own_sh, e_here_ow, e_noIo_ow, e_Own_ow, e_here_io, e_noIo_io, e_Own_io, e_fz_sh, e_fz_ow, e_sv_sh, e_sv_ow, e_ret, e_retK, e_retN, e_expr, e_exprK, e_pass, e_break, e_cont, e_asg, e_asgK, e_asgB, e_sseq, e_set, e_setK1, e_setB, e_setK2, e_setO, e_setJ, e_nxO, e_setOwn, e_soK_ow, e_soK_io, e_app, e_appB, e_appK, e_appO, e_par, e_parA, e_parK, e_okI, e_iVal, e_iValK, e_items_lst, e_items_tup, e_items_str, e_iZp, e_iZpK, e_zp_l, e_zp_t, e_iRv, e_iRvK, e_rv_l, e_rv_t, e_iRg1, e_iRg1K, e_rg1, e_iRg2, e_iRg2K, e_rg2, e_for, e_forK, e_for_nil, e_for_cons, e_forG, e_forS_nx, e_forS_cnt, e_forS_brk, e_forS_ret, e_forS_exc, e_gVar, e_gvB, e_gTup, e_gTupW, e_gCons, e_gNil, d_add_i, d_add_s, d_add_l, d_add_t, d_mul_i, d_mul_s, d_mul_l, d_fdiv, d_mod, d_pow, d_neg, d_iI, d_ord_i, d_ord_s, d_eq_i, d_eq_s, d_ne_i, d_ne_s, d_len_l, d_len_t, d_abs, d_gcd, d_max2, d_min2, d_tup_l, d_tup_t, d_ix_l, d_ix_t, d_atR, at_0, at_1, at_2, ixn_0, ixn_1, ixn_2, e_run, e_fin_ret, e_fin_nx, e_fin_exc, e_outR, e_outX, e_out_none, e_out_some, e_ioS, e_arg_none, e_arg_nil, e_arg_0, e_arg_s, e_ioD, e_call, e_calK1, e_calK2, e_calO_ret, e_calO_exc, e_callP, e_cpK, e_cpD, e_cpC_s, e_cpC_x, e_cpC_o, e_cpS, e_cpX, e_gnil, e_gv, e_gvK1, e_gvK2, e_gs, e_gsB, e_gsK, e_go, e_goK, e_ads_nil, e_ads_cons, e_adC, e_adC2, e_adD_v, e_adD_s, e_adD_o, e_adO, e_pi, e_piK, e_sl, e_slK1, e_slK2, e_slK3, e_slO, e_part_n, e_part_i, d_slice_l, d_slice_t, e_sl3, e_s3K1, e_s3K2, e_s3K3, e_s3K4, e_s3O, e_lc, e_lcK, e_lcB, e_lcR, e_yes, e_okW2, e_okWS_no, e_okWS_sh, eq_self, log_7, List.length_cons, List.length_nil, List.map_cons, List.map_nil, List.cons_append, List.nil_append, List.replicate_succ, List.replicate_zero, List.append_nil, List.getElem?_cons_zero, List.getElem?_cons_succ, List.getElem?_nil, List.set_cons_zero, List.set_cons_succ, Option.bind_some, Option.bind_none, Option.isSome_some, Nat.reduceAdd, Nat.reduceSub, Nat.reduceLT, Nat.reduceLeDiff, Nat.reduceEqDiff, Int.reduceAdd, Int.reduceMul, Int.reduceNeg, Int.reducePow, Int.reduceLT, Int.reduceLE, and_self, and_true, true_and, if_true, if_false, ↓reduceIte, Bool.not_true, Bool.not_false, decide_true, decide_false, decide_eq_true_eq, List.all_cons, List.all_nil, Bool.and_true, Bool.true_and, Bool.and_self, wipeE, adPl, Int.reduceToNat, rng_5, abs_10, ha]
end countfold_k09_what_divides_coefs

open PySem PySem.W PySem.Calls PyProof.Rows
theorem PySem.Challenge.cw_countfold_k09_what_divides_coefs_holds : PySem.Challenge.rw_countfold_k09_what_divides_coefs.Holds := by
  w_on; o_law
  refine HandSHeadRun.head_imp (r := countfold_k09_what_divides_coefs.R) (q := view countfold_k09_what_divides_coefs.R.prog [0, 13]) (H := countfold_k09_what_divides_coefs.hk) (ob := countfold_k09_what_divides_coefs.ob) (M := 4000) (loose := countfold_k09_what_divides_coefs.loose) (d := HandSHeadRun.topDef countfold_k09_what_divides_coefs.R.prog 13) (kwd := []) countfold_k09_what_divides_coefs.ob_eq countfold_k09_what_divides_coefs.run (by kernel_rfl) (by kernel_rfl) (by kernel_rfl) (by rfl) (by first | assumption | decide +kernel) (by decide +kernel) ⟨rfl, rfl, rfl, rfl, rfl, by decide +kernel⟩ ?hw ?hc
  case hw => w_witness2
  case hc =>
    refine FE.walk_ofG (l := PySem.Challenge.rw_countfold_k09_what_divides_coefs) (n := 63) (k := 5) (x := "_law_script") rfl (by decide) (by kernel_rfl) ⟨rfl, by decide, by decide⟩ ?F
    intro w mg fa h Y G hmg0
    obtain ⟨K, KX, c⟩ := Y
    have T : countfold_k09_what_divides_coefs.Tx w K mg h := ⟨KX, G, c⟩
    have hmg : mg ("law" : PySem.Str) = some (.ref fa) := by
      have e : (HandSHeadRun.topDef countfold_k09_what_divides_coefs.R.prog 13).name = ("law" : PySem.Str) := by kernel_rfl
      rw [← e]
      exact hmg0
    obtain ⟨fd, F⟩ := T.d.def_ 10 (d := countfold_k09_what_divides_coefs.dd "law" 13) rfl
    have e := hmg.symm.trans (He.glo_ok KX G (T.fact 10))
    cases e
    have b := L2.FunD.bindsA (ps := ["_law_script"]) F fun _ _ _ _ _ _ us hl => match us, hl with | [_], _ => rfl
    exact ⟨K, fd, _, KX, fun s v => b s [v] rfl, fun H a ns hl hb _ hS => FE.sp_law (C := countfold_k09_what_divides_coefs.C0) hS (countfold_k09_what_divides_coefs.law_true ns hl hb), fun base _ _ => countfold_k09_what_divides_coefs.ok_law T F⟩
