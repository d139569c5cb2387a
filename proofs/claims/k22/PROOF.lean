import PyProof.Rows.All
import Wide.All
import OpenK.AllK
import Wide.FinOn
import HandS.ForMost
import HandS.Walk
import HandS.WordsExc
import HandS.TryOnly
import HandS.TupAny
import HandS.TupLen
import HandS.IsInst
import HandS.Wide
import HandS.Zip
import HandS.More
import KE.KDictKeyed
import HandS.DictComp
import HandS.Strs
import HandS.TryMany
import HandS.ExcCtx
import HandS.Conv
import KE.GoesZip
import KE.GoesMore
import KE.GoesEnum
import HandS.Defaults
import HandS.Style
import HandS.Head0
import HandS.Head1
import HandS.Head2
import HandS.HeadEnd
import HandS.HeadHook1
import HandS.HeadHook2
import KE.KStateDown
import HandS.SetFor
import HandS.RaiseMore
import HandS.SortInts
import PySem.Challenge.RW_piecetold_k22_splices
set_option Elab.async false
set_option linter.all false
set_option maxRecDepth 100000
set_option maxHeartbeats 0
/-! DL: data of any depth over the hand layer: what an expression makes of data, told by plain functions. -/
namespace DL
open PySem PySem.Spec PyProof.Rows L2

abbrev KF := PySem.W.Frag

/-- data: what a value is, whatever address it has -/
inductive D where
  | non
  | bl (b : Bool)
  | int (i : Int)
  | str (x : Str)
  | tup (xs : List D)
  | lst (xs : List D)
  | scr (ns : List Int)
  | dct (kvs : List (List Key × D))
  | obj (n : Str) (fs : List (Str × D))
  /-- a dict whose keys are ints and texts -/
  | dck (kvs : List (Key × D))
  /-- a dict whose keys are tuples of any depth, of the program P in the world w -/
  | dcx (P : Program) (w : World) (kvs : List (D × D))
  /-- a thing that may change, by its address -/
  | ptr (a : Addr)
mutual
/-- a tuple's key in a dict -/
def keyN : D → Option NestedKey
  | .non => some .none
  | .int i => some (.num i)
  | .str x => some (.text x)
  | .tup xs => (keyNs xs).map .tup
  | _ => none
def keyNs : List D → Option (List NestedKey)
  | [] => some []
  | d :: ds => (keyN d).bind fun k => (keyNs ds).map (k :: ·)
end
def keyX (d : D) : Option NestedKey := match d with
  | .tup xs => (keyN (.tup xs)).bind fun k => if k.depth ≤ 8 then some k else none
  | _ => none
/-- a dict with the keys ks, that stand at addresses -/
def DxR (P : Program) (w : World) (a : Addr) (es : List (NestedKey × Addr × V)) (h : Heap) : Prop :=
  (a == sysModules) = false ∧ ∃ xs : List (NestedKey × Addr × Value), Paired (fun (p : NestedKey × Addr × V) (q : NestedKey × Addr × Value) => p.1 = q.1 ∧ p.2.1 = q.2.1 ∧ RelV p.2.2 q.2.2) es xs ∧
    ∃ o ds ep, h.get? a = some o ∧ o.ExactDict ∧ o.data = .dict ds ep ∧ ds.toList = xs.map (entryOfKey (nestedKind P w)) ∧ (xs.map (·.1)).Nodup
def DxO (P : Program) (w : World) (a : Addr) (es : List (NestedKey × Addr × V)) : HO := .ext (DxR P w a es)

/-- C is the class under the name n; none of its attributes is an instance's own f -/
structure IsCls (K : KF) (n : Str) (C : Addr) (fs : List Str) : Prop where
  at_ : PySem.W.nsIn K mainGlobals n = some (some (.ref C))
  cls : Cls K C
  no : ∀ f, f ∈ fs → NoAttr K C f

theorem _root_.L2.Same.seqT {K : KF} {F F' : Hp} {a : Addr} {xs : List V} (s : Same F F') (h : SqT K F a xs) : SqT K F' a xs := by
  rcases h with h | h
  · rcases h with h | ⟨o, h⟩
    · exact .inl (.inl (s _ _ h))
    · exact .inl (.inr ⟨o, s _ _ h⟩)
  · exact .inr h
/-- the empty tuple of K -/
def KNil (K : KF) (a : Addr) : Prop := ∃ o its n, List.lookup a K = some o ∧ o.cls = Value.type "tuple" ∧ o.data = Data.seq its n ∧ its.size ≤ sizeLine ∧ Vals [] its.toList
/-- a tuple of F, or the empty tuple of K (a default) -/
def TupAt (K : KF) (F : Hp) (a : Addr) (vs : List V) : Prop := F a = some (.tup vs) ∨ (vs = [] ∧ KNil K a)
theorem TupAt.of {K : KF} {F : Hp} {a : Addr} {vs : List V} (h : F a = some (.tup vs)) : TupAt K F a vs := .inl h
theorem TupAt.up {K : KF} {F F' : Hp} {a : Addr} {vs : List V} (h : TupAt K F a vs) (s : Same F F') : TupAt K F' a vs := by
  rcases h with h | h
  · exact .inl (s _ _ h)
  · exact .inr h
theorem TupAt.sq {K : KF} {F : Hp} {a : Addr} {vs : List V} (h : TupAt K F a vs) : SqT K F a vs := by
  rcases h with h | ⟨rfl, h⟩
  · exact SqT.of h
  · exact .inr h
theorem TupAt.sq2 {K : KF} {F H : Hp} {a : Addr} {vs : List V} (h : TupAt K F a vs) (s : Same F H) : SqT K H a vs := (h.up s).sq
theorem TupAt.own {K : KF} {F : Hp} {a : Addr} {vs : List V} (h : TupAt K F a vs) (n : vs ≠ []) : F a = some (.tup vs) := by
  rcases h with h | ⟨h, _⟩
  · exact h
  · exact absurd h n
mutual
/-- v is the data d, by objects of F alone -/
inductive Rep (K : KF) (F : Hp) : V → D → Prop
  | non : Rep K F .non .non
  | bl (b : Bool) : Rep K F (.bl b) (.bl b)
  | int (i : Int) : Rep K F (.int i) (.int i)
  | str (x : Str) : Rep K F (.str x) (.str x)
  | tup {a : Addr} {vs : List V} {xs : List D} : TupAt K F a vs → RepL K F vs xs → Rep K F (.ref a) (.tup xs)
  | lst {a : Addr} {vs : List V} {xs : List D} : F a = some (.lst vs) → RepL K F vs xs → Rep K F (.ref a) (.lst xs)
  | scr {a : Addr} {ns : List Int} : SqL K F a (ns.map V.int) → Rep K F (.ref a) (.scr ns)
  | dct {a : Addr} {es : List (List Key × V)} {kvs : List (List Key × D)} : F a = some (.dT es) → RepK K F es kvs → Rep K F (.ref a) (.dct kvs)
  | obj {a C dx : Addr} {n : Str} {es : List (Str × V)} {fs : List (Str × D)} : F a = some (.ins C dx es) → IsCls K n C (fs.map (·.1)) → RepF K F es fs → Rep K F (.ref a) (.obj n fs)
  | dck {a : Addr} {es : List (Key × V)} {kvs : List (Key × D)} : F a = some (.dK es) → RepM K F es kvs → Rep K F (.ref a) (.dck kvs)
  | dcx {P : Program} {w : World} {a : Addr} {es : List (NestedKey × Addr × V)} {kvs : List (D × D)} : F a = some (DxO P w a es) → RepX K F es kvs → Rep K F (.ref a) (.dcx P w kvs)
  | ptr {a : Addr} : Rep K F (.ref a) (.ptr a)
inductive RepL (K : KF) (F : Hp) : List V → List D → Prop
  | nil : RepL K F [] []
  | cons {v : V} {vs : List V} {x : D} {xs : List D} : Rep K F v x → RepL K F vs xs → RepL K F (v :: vs) (x :: xs)
inductive RepF (K : KF) (F : Hp) : List (Str × V) → List (Str × D) → Prop
  | nil : RepF K F [] []
  | cons {f : Str} {v : V} {vs : List (Str × V)} {x : D} {xs : List (Str × D)} : Rep K F v x → RepF K F vs xs → RepF K F ((f, v) :: vs) ((f, x) :: xs)
inductive RepK (K : KF) (F : Hp) : List (List Key × V) → List (List Key × D) → Prop
  | nil : RepK K F [] []
  | cons {f : List Key} {v : V} {vs : List (List Key × V)} {x : D} {xs : List (List Key × D)} : Rep K F v x → RepK K F vs xs → RepK K F ((f, v) :: vs) ((f, x) :: xs)
inductive RepM (K : KF) (F : Hp) : List (Key × V) → List (Key × D) → Prop
  | nil : RepM K F [] []
  | cons {f : Key} {v : V} {vs : List (Key × V)} {x : D} {xs : List (Key × D)} : Rep K F v x → RepM K F vs xs → RepM K F ((f, v) :: vs) ((f, x) :: xs)
inductive RepX (K : KF) (F : Hp) : List (NestedKey × Addr × V) → List (D × D) → Prop
  | nil : RepX K F [] []
  | cons {k : NestedKey} {b : Addr} {v : V} {vs : List (NestedKey × Addr × V)} {x y : D} {xs : List (D × D)} : keyX y = some k → Rep K F (.ref b) y → Rep K F v x → RepX K F vs xs → RepX K F ((k, b, v) :: vs) ((y, x) :: xs)
end

section
variable {K : KF} {F F' H H' : Hp}
mutual
theorem Rep.up (s : Same F F') : ∀ (d : D) (v : V), Rep K F v d → Rep K F' v d
  | .non, _, h => by cases h; exact .non
  | .bl _, _, h => by cases h; exact .bl _
  | .int _, _, h => by cases h; exact .int _
  | .str _, _, h => by cases h; exact .str _
  | .tup xs, _, h => by cases h with | tup e r => exact .tup (e.up s) (RepL.up s xs _ r)
  | .lst xs, _, h => by cases h with | lst e r => exact .lst (s _ _ e) (RepL.up s xs _ r)
  | .scr ns, _, h => by cases h with | scr e => exact .scr (s.seq e)
  | .dct kvs, _, h => by cases h with | dct e r => exact .dct (s _ _ e) (RepK.up s kvs _ r)
  | .obj C fs, _, h => by cases h with | obj e c r => exact .obj (s _ _ e) c (RepF.up s fs _ r)
  | .dck kvs, _, h => by cases h with | dck e r => exact .dck (s _ _ e) (RepM.up s kvs _ r)
  | .dcx P w kvs, _, h => by cases h with | dcx e r => exact .dcx (s _ _ e) (RepX.up s kvs _ r)
  | .ptr a, _, h => by cases h; exact .ptr
theorem RepL.up (s : Same F F') : ∀ (ds : List D) (vs : List V), RepL K F vs ds → RepL K F' vs ds
  | [], _, h => by cases h; exact .nil
  | d :: ds, _, h => by cases h with | cons a b => exact .cons (Rep.up s d _ a) (RepL.up s ds _ b)
theorem RepF.up (s : Same F F') : ∀ (ds : List (Str × D)) (vs : List (Str × V)), RepF K F vs ds → RepF K F' vs ds
  | [], _, h => by cases h; exact .nil
  | (f, d) :: ds, _, h => by cases h with | cons a b => exact .cons (Rep.up s d _ a) (RepF.up s ds _ b)
theorem RepK.up (s : Same F F') : ∀ (ds : List (List Key × D)) (vs : List (List Key × V)), RepK K F vs ds → RepK K F' vs ds
  | [], _, h => by cases h; exact .nil
  | (f, d) :: ds, _, h => by cases h with | cons a b => exact .cons (Rep.up s d _ a) (RepK.up s ds _ b)
theorem RepM.up (s : Same F F') : ∀ (ds : List (Key × D)) (vs : List (Key × V)), RepM K F vs ds → RepM K F' vs ds
  | [], _, h => by cases h; exact .nil
  | (f, d) :: ds, _, h => by cases h with | cons a b => exact .cons (Rep.up s d _ a) (RepM.up s ds _ b)
theorem RepX.up (s : Same F F') : ∀ (ds : List (D × D)) (vs : List (NestedKey × Addr × V)), RepX K F vs ds → RepX K F' vs ds
  | [], _, h => by cases h; exact .nil
  | (y, x) :: ds, _, h => by cases h with | cons k a b c => exact .cons k (Rep.up s y _ a) (Rep.up s x _ b) (RepX.up s ds _ c)
end
theorem RepL.ne {vs : List V} {x : D} {xs : List D} (h : RepL K F vs (x :: xs)) : vs ≠ [] := by cases h; exact fun h => nomatch h
theorem Rep.mono {v : V} {d : D} (h : Rep K F v d) (s : Same F F') : Rep K F' v d := Rep.up s d v h
theorem RepL.mono {v : List V} {d : List D} (h : RepL K F v d) (s : Same F F') : RepL K F' v d := RepL.up s d v h
theorem RepK.mono {v : List (List Key × V)} {d : List (List Key × D)} (h : RepK K F v d) (s : Same F F') : RepK K F' v d := RepK.up s d v h
theorem RepM.mono {v : List (Key × V)} {d : List (Key × D)} (h : RepM K F v d) (s : Same F F') : RepM K F' v d := RepM.up s d v h
theorem RepX.mono {v : List (NestedKey × Addr × V)} {d : List (D × D)} (h : RepX K F v d) (s : Same F F') : RepX K F' v d := RepX.up s d v h
theorem RepF.mono {v : List (Str × V)} {d : List (Str × D)} (h : RepF K F v d) (s : Same F F') : RepF K F' v d := RepF.up s d v h

theorem RepL.len : ∀ {vs : List V} {ds : List D}, RepL K F vs ds → vs.length = ds.length
  | _, _, .nil => rfl
  | _, _, .cons _ t => by rw [List.length_cons, List.length_cons, RepL.len t]
theorem RepL.app : ∀ {vs ws : List V} {ds es : List D}, RepL K F vs ds → RepL K F ws es → RepL K F (vs ++ ws) (ds ++ es)
  | _, _, _, _, .nil, h => h
  | _, _, _, _, .cons a t, h => .cons a (RepL.app t h)
theorem RepL.get : ∀ {vs : List V} {ds : List D} {i : Nat} {d : D}, RepL K F vs ds → ds[i]? = some d → ∃ v, vs[i]? = some v ∧ Rep K F v d
  | _, _, _, _, .nil, e => by simp at e
  | _, _, 0, _, .cons a _, e => by simp at e; subst e; exact ⟨_, rfl, a⟩
  | _, _, i + 1, _, .cons _ t, e => by
    obtain ⟨v, h1, h2⟩ := RepL.get (i := i) t (by simpa using e)
    exact ⟨v, by simpa using h1, h2⟩
theorem RepL.getV : ∀ {vs : List V} {ds : List D} {i : Nat} {v : V}, RepL K F vs ds → vs[i]? = some v → ∃ d, ds[i]? = some d ∧ Rep K F v d
  | _, _, _, _, .nil, e => by simp at e
  | _, _, 0, _, .cons a _, e => by simp at e; subst e; exact ⟨_, rfl, a⟩
  | _, _, i + 1, _, .cons _ t, e => by
    obtain ⟨v, h1, h2⟩ := RepL.getV (i := i) t (by simpa using e)
    exact ⟨v, by simpa using h1, h2⟩
theorem RepL.take : ∀ {vs : List V} {ds : List D} (n : Nat), RepL K F vs ds → RepL K F (vs.take n) (ds.take n)
  | _, _, 0, _ => by simpa using .nil
  | _, _, _ + 1, .nil => .nil
  | _, _, n + 1, .cons a t => .cons a (RepL.take n t)
theorem RepL.drop : ∀ {vs : List V} {ds : List D} (n : Nat), RepL K F vs ds → RepL K F (vs.drop n) (ds.drop n)
  | _, _, 0, h => h
  | _, _, _ + 1, .nil => .nil
  | _, _, n + 1, .cons _ t => RepL.drop n t
theorem RepF.look : ∀ {vs : List (Str × V)} {ds : List (Str × D)} {f : Str} {d : D}, RepF K F vs ds → ds.lookup f = some d → ∃ v, vs.lookup f = some v ∧ Rep K F v d
  | _, _, _, _, .nil, e => by simp at e
  | _, _, f, d, .cons (f := g) a t, e => by
    rw [List.lookup_cons] at e ⊢
    cases hb : f == g with
    | true => rw [hb] at e; simp at e; subst e; exact ⟨_, rfl, a⟩
    | false => rw [hb] at e; exact RepF.look t e

theorem _root_.L2.Same.add {a : Addr} {o : HO} (h : H a = none) : Same H (upd H a o) := fun b u e => by rw [upd_ne (ne_of_none e h)]; exact e
theorem _root_.L2.Same.addBoth {a : Addr} {o : HO} (s : Same F H) : Same (upd F a o) (upd H a o) := fun b u e => by
  by_cases hb : b = a
  · subst hb; rw [upd_same] at e ⊢; exact e
  · rw [upd_ne hb] at e ⊢; exact s b u e
theorem _root_.L2.Same.out {a : Addr} (s : Same F H) (h : H a = none) : F a = none := by
  cases q : F a with
  | none => rfl
  | some o => rw [s a o q] at h; cases h

/-- from (F, H) to (F', H'): what was tracked stands; F, the part that never changes, has grown by new objects alone -/
structure Grow (F H F' H' : Hp) : Prop where
  hh : Same H H'
  ff : Same F F'
  fh : Same F' H'
  nn : ∀ a, H a ≠ none → F a = none → F' a = none
theorem Grow.refl (s : Same F H) : Grow F H F H := ⟨Same.refl _, Same.refl _, s, fun _ _ h => h⟩
theorem Grow.trans {F1 H1 F2 H2 : Hp} (a : Grow F H F1 H1) (b : Grow F1 H1 F2 H2) : Grow F H F2 H2 :=
  ⟨a.hh.trans b.hh, a.ff.trans b.ff, b.fh, fun x hx hf => b.nn x (fun e => hx (a.hh.free e)) (a.nn x hx hf)⟩
/-- a new object, for good -/
theorem Grow.new (s : Same F H) {p : Addr} {o : HO} (hp : H p = none) : Grow F H (upd F p o) (upd H p o) :=
  ⟨Same.add hp, Same.add (s.out hp), s.addBoth, fun a ha hf => by rw [upd_ne (fun e => ha (by rw [e]; exact hp))]; exact hf⟩
/-- a new object of one's own -/
theorem Grow.own (s : Same F H) {p : Addr} {o : HO} (hp : H p = none) : Grow F H F (upd H p o) :=
  ⟨Same.add hp, Same.refl _, s.trans (Same.add hp), fun _ _ hf => hf⟩
end

/-- what a name holds: data, or a list or dict of one's own that may still change -/
inductive S where
  | d (x : D)
  | ml (xs : List D)
  | md (kvs : List (List Key × D))
  | ob (a : Addr) (n : Str) (all : List Str) (fs : List (Str × D))
  /-- an error of the class c, at a, while it is handled -/
  | xc (a : Addr) (c : Str)
def S.own : S → Bool
  | .d _ => false
  | .xc _ _ => false
  | _ => true
abbrev Env := List (Option S)

def SlotOk (K : KF) (H0 F H : Hp) : S → V → Prop
  | .d x, v => Rep K F v x
  | .ml xs, v => ∃ a vs, v = .ref a ∧ H0 a = none ∧ F a = none ∧ H a = some (.lst vs) ∧ RepL K F vs xs
  | .md kvs, v => ∃ a es, v = .ref a ∧ H0 a = none ∧ F a = none ∧ H a = some (.dT es) ∧ RepK K F es kvs
  | .ob a0 n all fs, v => ∃ a C dx es, v = .ref a ∧ H0 a = none ∧ F a = none ∧ H a = some (.ins C dx es) ∧ RepF K F es fs ∧ IsCls K n C all ∧ (∀ f ∈ fs.map (·.1), f ∈ all) ∧ a = a0
  | .xc a _, v => v = .ref a

structure SL (K : KF) (F0 H0 : Hp) (ρ : Env) (σ : L2.St) (F H : Hp) : Prop where
  grow : Grow F0 H0 F H
  len : σ.length = ρ.length
  slot : ∀ (i : Nat) (s : S), ρ[i]? = some (some s) → ∃ v, σ[i]? = some (some v) ∧ SlotOk K H0 F H s v
  apart : ∀ (i j : Nat) (s t : S) (a : Addr), i ≠ j → ρ[i]? = some (some s) → ρ[j]? = some (some t) → s.own = true → t.own = true → σ[i]? = some (some (.ref a)) → σ[j]? ≠ some (some (.ref a))

section
variable {K : KF} {F0 H0 F H F' H' : Hp} {ρ : Env} {σ : L2.St}
theorem SL.sub (z : SL K F0 H0 ρ σ F H) : Same F H := z.grow.fh
theorem SlotOk.up {s : S} {v : V} (h : SlotOk K H0 F H s v) (g : Grow F H F' H') : SlotOk K H0 F' H' s v := by
  cases s with
  | d x => exact Rep.mono (show Rep K F v x from h) g.ff
  | ml xs =>
    obtain ⟨a, vs, e, h0, hf, hh, r⟩ := h
    exact ⟨a, vs, e, h0, g.nn a (by rw [hh]; simp) hf, g.hh _ _ hh, r.mono g.ff⟩
  | md xs =>
    obtain ⟨a, vs, e, h0, hf, hh, r⟩ := h
    exact ⟨a, vs, e, h0, g.nn a (by rw [hh]; simp) hf, g.hh _ _ hh, r.mono g.ff⟩
  | ob a0 n all fs =>
    obtain ⟨a, C, dx, es, e, h0, hf, hh, r, c⟩ := h
    exact ⟨a, C, dx, es, e, h0, g.nn a (by rw [hh]; simp) hf, g.hh _ _ hh, r.mono g.ff, c⟩
  | xc a c => exact h
theorem SL.up (z : SL K F0 H0 ρ σ F H) (g : Grow F H F' H') : SL K F0 H0 ρ σ F' H' :=
  ⟨z.grow.trans g, z.len, fun i s e => let ⟨v, h1, h2⟩ := z.slot i s e; ⟨v, h1, h2.up g⟩, z.apart⟩
end

/-- what a computation comes to -/
inductive R (α : Type) where
  | stuck
  | err (c : Str)
  | ok (a : α)
def R.bind {α β : Type} (r : R α) (f : α → R β) : R β := match r with
  | .stuck => .stuck
  | .err c => .err c
  | .ok a => f a
def R.map {α β : Type} (f : α → β) (r : R α) : R β := match r with
  | .stuck => .stuck
  | .err c => .err c
  | .ok a => .ok (f a)
@[simp] theorem R.bind_ok {α β : Type} (a : α) (f : α → R β) : (R.ok a).bind f = f a := rfl
@[simp] theorem R.bind_err {α β : Type} (c : Str) (f : α → R β) : (R.err c).bind f = .err c := rfl
@[simp] theorem R.bind_stuck {α β : Type} (f : α → R β) : (R.stuck).bind f = .stuck := rfl
@[simp] theorem R.map_ok {α β : Type} (a : α) (f : α → β) : (R.ok a).map f = .ok (f a) := rfl
@[simp] theorem R.map_err {α β : Type} (c : Str) (f : α → β) : (R.err c : R α).map f = .err c := rfl
@[simp] theorem R.map_stuck {α β : Type} (f : α → β) : (R.stuck : R α).map f = .stuck := rfl
/-- ok where c holds -/
def R.when {α : Type} (c : Prop) [Decidable c] (r : R α) : R α := if c then r else .stuck
theorem R.when_pos {α : Type} {c : Prop} [Decidable c] {r : R α} (h : c) : R.when c r = r := if_pos h
/-- the answer of a function in Option -/
def R.of {α : Type} : Option α → R α
  | some a => .ok a
  | none => .stuck
@[simp] theorem R.of_some {α : Type} (a : α) : R.of (some a) = .ok a := rfl
@[simp] theorem R.of_none {α : Type} : R.of (none : Option α) = .stuck := rfl

/-- what is wished of an exception of the class c -/
abbrev Wish := Str → L2.St → Hp → Prop
abbrev Rel (β α : Type) := Hp → Hp → Hp → Hp → β → α → Prop
def Post {β α : Type} (W : Wish) (r : Rel β α) (F H : Hp) (σ : L2.St) (x : R α) (Q : β → Hp → Prop) : Prop := match x with
  | .stuck => False
  | .err c => ∀ F' H', Grow F H F' H' → W c σ H'
  | .ok a => ∀ b F' H', Grow F H F' H' → r F H F' H' b a → Q b H'
def tG {β α : Type} (K : KF) (W : Wish) (r : Rel β α) (f : Env → R α) : L2.St → Hp → (β → Hp → Prop) → Prop := fun σ H Q =>
  ∃ F0 H0 ρ F, SL K F0 H0 ρ σ F H ∧ Post W r F H σ (f ρ) Q

/-- a list that is read: it may be one of one's own -/
inductive RepB (K : KF) (F H : Hp) : V → D → Prop
  | rep {v : V} {d : D} : Rep K F v d → RepB K F H v d
  | lst {a : Addr} {vs : List V} {xs : List D} : H a = some (.lst vs) → RepL K F vs xs → RepB K F H (.ref a) (.lst xs)
  | dct {a : Addr} {es : List (List Key × V)} {kvs : List (List Key × D)} : H a = some (.dT es) → RepK K F es kvs → RepB K F H (.ref a) (.dct kvs)
  | ins {a C dx : Addr} {n : Str} {es : List (Str × V)} {fs : List (Str × D)} : H a = some (.ins C dx es) → IsCls K n C (fs.map (·.1)) → RepF K F es fs → RepB K F H (.ref a) (.obj n fs)
def rV (K : KF) : Rel V D := fun _ _ F' _ v d => Rep K F' v d
def rB (K : KF) : Rel V D := fun _ _ F' H' v d => RepB K F' H' v d
def rF (K : KF) : Rel V (List D) := fun _ H F' H' v xs => ∃ a vs, v = .ref a ∧ H a = none ∧ F' a = none ∧ H' a = some (.lst vs) ∧ RepL K F' vs xs
def rT : Rel Bool Bool := fun _ _ _ _ b x => b = x
def rA (K : KF) : Rel (List V) (List D) := fun _ _ F' _ vs ds => RepL K F' vs ds

section
variable {K : KF} {W : Wish} {F H F' H' F1 H1 : Hp} {σ : L2.St} {v : V} {d : D}
theorem Rep.b (h : Rep K F v d) : RepB K F H v d := .rep h
theorem RepB.up (h : RepB K F H v d) (g : Grow F H F' H') : RepB K F' H' v d := by
  cases h with
  | rep h => exact .rep (h.mono g.ff)
  | lst h r => exact .lst (g.hh _ _ h) (r.mono g.ff)
  | dct h r => exact .dct (g.hh _ _ h) (r.mono g.ff)
  | ins h c r => exact .ins (g.hh _ _ h) c (r.mono g.ff)
theorem RepB.lst' {xs : List D} (h : RepB K F H v (.lst xs)) (s : Same F H) : ∃ a vs, v = .ref a ∧ H a = some (.lst vs) ∧ RepL K F vs xs := by
  cases h with
  | rep h => cases h with | lst e r => exact ⟨_, _, rfl, s _ _ e, r⟩
  | lst h r => exact ⟨_, _, rfl, h, r⟩
theorem RepB.dct' {ns : List (List Key × D)} (h : RepB K F H v (.dct ns)) (s : Same F H) : ∃ a es, v = .ref a ∧ H a = some (.dT es) ∧ RepK K F es ns := by
  cases h with
  | rep h => cases h with | dct e r => exact ⟨_, _, rfl, s _ _ e, r⟩
  | dct h r => exact ⟨_, _, rfl, h, r⟩
theorem RepB.tup {xs : List D} (h : RepB K F H v (.tup xs)) : ∃ a vs, v = .ref a ∧ TupAt K F a vs ∧ RepL K F vs xs := by
  cases h with | rep h => cases h with | tup e r => exact ⟨_, _, rfl, e, r⟩
theorem RepB.int {i : Int} (h : RepB K F H v (.int i)) : v = .int i := by
  cases h with | rep h => cases h; rfl
theorem RepB.bl {i : Bool} (h : RepB K F H v (.bl i)) : v = .bl i := by
  cases h with | rep h => cases h; rfl
theorem RepB.str {i : Str} (h : RepB K F H v (.str i)) : v = .str i := by
  cases h with | rep h => cases h; rfl
theorem RepB.non (h : RepB K F H v .non) : v = .non := by
  cases h with | rep h => cases h; rfl
theorem RepB.scr {ns : List Int} (h : RepB K F H v (.scr ns)) : ∃ a, v = .ref a ∧ SqL K F a (ns.map V.int) := by
  cases h with | rep h => cases h with | scr e => exact ⟨_, rfl, e⟩
theorem RepB.obj {n : Str} {fs : List (Str × D)} (h : RepB K F H v (.obj n fs)) (s : Same F H) : ∃ a C dx es, v = .ref a ∧ H a = some (.ins C dx es) ∧ IsCls K n C (fs.map (·.1)) ∧ RepF K F es fs := by
  cases h with
  | rep h => cases h with | obj e c r => exact ⟨_, _, _, _, rfl, s _ _ e, c, r⟩
  | ins e c r => exact ⟨_, _, _, _, rfl, e, c, r⟩

/-- relations whose start may be put earlier -/
def Rel.Early {β α : Type} (r : Rel β α) : Prop := ∀ F H F1 H1 F' H' b a, Grow F H F1 H1 → r F1 H1 F' H' b a → r F H F' H' b a
theorem rV_early : (rV K).Early := fun _ _ _ _ _ _ _ _ _ h => h
theorem rB_early : (rB K).Early := fun _ _ _ _ _ _ _ _ _ h => h
theorem rT_early : rT.Early := fun _ _ _ _ _ _ _ _ _ h => h
theorem rA_early : (rA K).Early := fun _ _ _ _ _ _ _ _ _ h => h
theorem rF_early : (rF K).Early := fun _ _ _ _ _ _ _ _ g ⟨a, vs, e, h, r⟩ => ⟨a, vs, e, g.hh.free h, r⟩
theorem Post.later {β α : Type} {r : Rel β α} {x : R α} {Q : β → Hp → Prop} (he : r.Early) (g : Grow F H F1 H1) (h : Post W r F H σ x Q) : Post W r F1 H1 σ x Q := by
  cases x with
  | stuck => exact h
  | err c => exact fun F' H' g' => h F' H' (g.trans g')
  | ok a => exact fun b F' H' g' hr => h b F' H' (g.trans g') (he _ _ _ _ _ _ _ _ g hr)

/-- THE BIND: first f, then what is done with its answer -/
theorem post_bind {β1 α1 β α : Type} {r1 : Rel β1 α1} {r : Rel β α} {F0 H0 : Hp} {ρ : Env} (z : SL K F0 H0 ρ σ F H) (he : r.Early) {f : Env → R α1} {g : α1 → R α} {Q : β → Hp → Prop} {k : β1 → Hp → Prop}
    (h : Post W r F H σ ((f ρ).bind g) Q)
    (hk : ∀ F1 H1 b x, SL K F0 H0 ρ σ F1 H1 → Grow F H F1 H1 → r1 F H F1 H1 b x → Post W r F1 H1 σ (g x) Q → k b H1) : tG K W r1 f σ H k := by
  refine ⟨F0, H0, ρ, F, z, ?_⟩
  cases e : f ρ with
  | stuck => rw [e] at h; exact h
  | err c => rw [e] at h; exact h
  | ok x =>
    rw [e] at h
    exact fun b F1 H1 g1 hr => hk F1 H1 b x (z.up g1) g1 hr (Post.later he g1 h)
theorem post_of {β α : Type} {r : Rel β α} {o : Option α} {Q : β → Hp → Prop} (h : Post W r F H σ (R.of o) Q) : ∃ a, o = some a ∧ ∀ b F' H', Grow F H F' H' → r F H F' H' b a → Q b H' := by
  cases o with
  | none => exact h.elim
  | some a => exact ⟨a, rfl, h⟩
theorem post_map {β γ α α' : Type} {r : Rel β α} {r' : Rel γ α'} {m : α → α'} {x : R α} {Q : γ → Hp → Prop} {k : β → Hp → Prop} (h : Post W r' F H σ (x.map m) Q) (hk : ∀ b a F' H', Grow F H F' H' → r F H F' H' b a → (∀ c, r' F H F' H' c (m a) → Q c H') → k b H') : Post W r F H σ x k := by
  cases x with
  | stuck => exact h
  | err c => exact h
  | ok a => exact fun b F' H' g hr => hk b a F' H' g hr fun c hc => h c F' H' g hc
theorem tG_of {β α : Type} {r : Rel β α} {f : Env → R α} {F0 H0 : Hp} {ρ : Env} {Q : β → Hp → Prop} (z : SL K F0 H0 ρ σ F H) (h : Post W r F H σ (f ρ) Q) : tG K W r f σ H Q := ⟨F0, H0, ρ, F, z, h⟩
end
theorem _root_.L2.PE.weak {X : Cx} {e : Expr} {t t' : TE} (h : PE X e t) (w : ∀ σ H Q, t' σ H Q → t σ H Q) : PE X e t' := ⟨fun pins s σ H Q I q => h.run pins s σ H Q I (w σ H Q q)⟩
theorem _root_.L2.PT.weak {X : Cx} {e : Expr} {t t' : TT} (h : PT X e t) (w : ∀ σ H Q, t' σ H Q → t σ H Q) : PT X e t' := ⟨fun pins s σ H Q I q => h.run pins s σ H Q I (w σ H Q q)⟩
theorem _root_.L2.PA.weak {X : Cx} {e : List Expr} {t t' : TA} (h : PA X e t) (w : ∀ σ H Q, t' σ H Q → t σ H Q) : PA X e t' := ⟨fun pos pins s σ H Q I q => h.run pos pins s σ H Q I (w σ H Q q)⟩
theorem _root_.L2.PS.weak {X : Cx} {e : Stmt} {t t' : TS} (h : PS X e t) (w : ∀ D σ H, t' D σ H → t D σ H) : PS X e t' := ⟨fun pins s σ H D I q => h.run pins s σ H D I (w D σ H q)⟩
theorem _root_.L2.PSs.weak {X : Cx} {e : List Stmt} {t t' : TS} (h : PSs X e t) (w : ∀ D σ H, t' D σ H → t D σ H) : PSs X e t' := ⟨fun pins s σ H D I q => h.run pins s σ H D I (w D σ H q)⟩
theorem _root_.L2.PI.weak {X : Cx} {tg e : Expr} {t t' : TI} (h : PI X tg e t) (w : ∀ σ H Q, t' σ H Q → t σ H Q) : PI X tg e t' := ⟨fun pins s σ H Q I q => h.run pins s σ H Q I (w σ H Q q)⟩

abbrev DV (X : Cx) (W : Wish) (e : Expr) (f : Env → R D) : Prop := PE X e (tG X.K W (rV X.K) f)
abbrev DB (X : Cx) (W : Wish) (e : Expr) (f : Env → R D) : Prop := PE X e (tG X.K W (rB X.K) f)
abbrev DF (X : Cx) (W : Wish) (e : Expr) (f : Env → R (List D)) : Prop := PE X e (tG X.K W (rF X.K) f)
abbrev DT (X : Cx) (W : Wish) (e : Expr) (f : Env → R Bool) : Prop := PT X e (tG X.K W rT f)
abbrev DA (X : Cx) (W : Wish) (es : List Expr) (f : Env → R (List D)) : Prop := PA X es (tG X.K W (rA X.K) f)
end DL
/-! DL2: the rules of expressions over data. -/
namespace DL
open PySem PySem.Spec PyProof.Rows L2

/-! ### reading data -/
def ints? : List D → Option (List Int)
  | [] => some []
  | .int i :: r => (ints? r).map (i :: ·)
  | _ => none
def strs? : List D → Option (List Str)
  | [] => some []
  | .str i :: r => (strs? r).map (i :: ·)
  | _ => none
def bls? : List D → Option (List Bool)
  | [] => some []
  | .bl i :: r => (bls? r).map (i :: ·)
  | _ => none
def keys? : List D → Option (List Key)
  | [] => some []
  | .int i :: r => (keys? r).map (Sum.inl i :: ·)
  | .str i :: r => (keys? r).map (Sum.inr i :: ·)
  | _ => none
@[simp] theorem ints_map (ns : List Int) : ints? (ns.map D.int) = some ns := by
  induction ns with
  | nil => rfl
  | cons a r ih => simp [ints?, ih]
@[simp] theorem strs_map (ns : List Str) : strs? (ns.map D.str) = some ns := by
  induction ns with
  | nil => rfl
  | cons a r ih => simp [strs?, ih]
@[simp] theorem bls_map (ns : List Bool) : bls? (ns.map D.bl) = some ns := by
  induction ns with
  | nil => rfl
  | cons a r ih => simp [bls?, ih]
section
variable {K : KF} {F H : Hp}
theorem RepL.ints {vs : List V} {ds : List D} {ns : List Int} (h : RepL K F vs ds) (e : ints? ds = some ns) : vs = ns.map V.int := by
  induction ds generalizing vs ns with
  | nil => cases h; simp [ints?] at e; subst e; rfl
  | cons d r ih =>
    cases h with
    | cons a t =>
      cases d <;> first | (cases e; done) | skip
      simp only [ints?, Option.map_eq_some_iff] at e
      obtain ⟨m, e1, e2⟩ := e
      subst e2
      cases a
      rw [ih t e1]; rfl
theorem RepL.strs {vs : List V} {ds : List D} {ns : List Str} (h : RepL K F vs ds) (e : strs? ds = some ns) : vs = ns.map V.str := by
  induction ds generalizing vs ns with
  | nil => cases h; simp [strs?] at e; subst e; rfl
  | cons d r ih =>
    cases h with
    | cons a t =>
      cases d <;> first | (cases e; done) | skip
      simp only [strs?, Option.map_eq_some_iff] at e
      obtain ⟨m, e1, e2⟩ := e
      subst e2
      cases a
      rw [ih t e1]; rfl
theorem RepL.bls {vs : List V} {ds : List D} {ns : List Bool} (h : RepL K F vs ds) (e : bls? ds = some ns) : vs = ns.map V.bl := by
  induction ds generalizing vs ns with
  | nil => cases h; simp [bls?] at e; subst e; rfl
  | cons d r ih =>
    cases h with
    | cons a t =>
      cases d <;> first | (cases e; done) | skip
      simp only [bls?, Option.map_eq_some_iff] at e
      obtain ⟨m, e1, e2⟩ := e
      subst e2
      cases a
      rw [ih t e1]; rfl
theorem RepL.keys {vs : List V} {ds : List D} {ns : List Key} (h : RepL K F vs ds) (e : keys? ds = some ns) : vs = ns.map kV := by
  induction ds generalizing vs ns with
  | nil => cases h; simp [keys?] at e; subst e; rfl
  | cons d r ih =>
    cases h with
    | cons a t =>
      cases d <;> first | (cases e; done) | skip
      · simp only [keys?, Option.map_eq_some_iff] at e
        obtain ⟨m, e1, e2⟩ := e
        subst e2
        cases a
        rw [ih t e1]; rfl
      · simp only [keys?, Option.map_eq_some_iff] at e
        obtain ⟨m, e1, e2⟩ := e
        subst e2
        cases a
        rw [ih t e1]; rfl
theorem RepL.ofInts : ∀ (ns : List Int), RepL K F (ns.map V.int) (ns.map D.int)
  | [] => .nil
  | _ :: r => .cons (.int _) (RepL.ofInts r)
theorem RepL.ofStrs : ∀ (ns : List Str), RepL K F (ns.map V.str) (ns.map D.str)
  | [] => .nil
  | _ :: r => .cons (.str _) (RepL.ofStrs r)
end

mutual
def D.py : D → Option PyData
  | .non => some .none
  | .bl b => some (.bool b)
  | .int i => some (.int i)
  | .str x => some (.str x)
  | .tup xs => (pys xs).map .tuple
  | .lst xs => (pys xs).map .list
  | _ => none
def pys : List D → Option (List PyData)
  | [] => some []
  | d :: ds => (D.py d).bind fun p => (pys ds).map fun q => p :: q
end
section
variable {K : KF} {F H : Hp}
mutual
theorem Rep.dp : ∀ (d : D) (v : V) (p : PyData), Rep K F v d → d.py = some p → Dp K F v p
  | .non, _, _, h, e => by cases h; simp [D.py] at e; subst e; exact .non
  | .bl _, _, _, h, e => by cases h; simp [D.py] at e; subst e; exact .bl _
  | .int _, _, _, h, e => by cases h; simp [D.py] at e; subst e; exact .int _
  | .str _, _, _, h, e => by cases h; simp [D.py] at e; subst e; exact .str _
  | .tup xs, _, _, h, e => by
    cases h with
    | tup f r =>
      simp only [D.py, Option.map_eq_some_iff] at e
      obtain ⟨q, e1, e2⟩ := e
      subst e2
      exact .tup f.sq (RepL.dp xs _ _ r e1)
  | .lst xs, _, _, h, e => by
    cases h with
    | lst f r =>
      simp only [D.py, Option.map_eq_some_iff] at e
      obtain ⟨q, e1, e2⟩ := e
      subst e2
      exact .lst (SqL.of f) (RepL.dp xs _ _ r e1)
  | .scr _, _, _, _, e => by simp [D.py] at e
  | .dct _, _, _, _, e => by simp [D.py] at e
  | .obj _ _, _, _, _, e => by simp [D.py] at e
  | .dck _, _, _, _, e => by simp [D.py] at e
  | .dcx _ _ _, _, _, _, e => by simp [D.py] at e
  | .ptr _, _, _, _, e => by simp [D.py] at e
theorem RepL.dp : ∀ (ds : List D) (vs : List V) (ps : List PyData), RepL K F vs ds → pys ds = some ps → DpAll K F vs ps
  | [], _, _, h, e => by cases h; simp [pys] at e; subst e; exact .nil
  | d :: ds, _, _, h, e => by
    cases h with
    | cons a b =>
      simp only [pys, Option.bind_eq_some_iff, Option.map_eq_some_iff] at e
      obtain ⟨p, e1, q, e2, e3⟩ := e
      subst e3
      exact .cons (Rep.dp d _ _ a e1) (RepL.dp ds _ _ b e2)
end
mutual
theorem Dp.up2 {F' : Hp} (s : Same F F') : ∀ (p : PyData) (v : V), Dp K F v p → Dp K F' v p
  | .none, _, h => by cases h; exact .non
  | .bool _, _, h => by cases h; exact .bl _
  | .int _, _, h => by cases h; exact .int _
  | .str _, _, h => by cases h; exact .str _
  | .list xs, _, h => by cases h with | lst e r => exact .lst (s.seq e) (DpAll.up2 s xs _ r)
  | .tuple xs, _, h => by
    cases h with
    | tup e r =>
      refine .tup ?_ (DpAll.up2 s xs _ r)
      rcases e with (e | ⟨o, e⟩) | e
      · exact .inl (.inl (s _ _ e))
      · exact .inl (.inr ⟨o, s _ _ e⟩)
      · exact .inr e
  | .dict _, _, h => by cases h
theorem DpAll.up2 {F' : Hp} (s : Same F F') : ∀ (p : List PyData) (v : List V), DpAll K F v p → DpAll K F' v p
  | [], _, h => by cases h; exact .nil
  | _ :: ps, _, h => by cases h with | cons a b => exact .cons (Dp.up2 s _ _ a) (DpAll.up2 s ps _ b)
end
theorem RepB.dp {v : V} {d : D} {p : PyData} (h : RepB K F H v d) (s : Same F H) (e : d.py = some p) : Dp K H v p := by
  cases h with
  | rep h => exact Dp.up2 s _ _ (Rep.dp d v p h e)
  | lst h r =>
    simp only [D.py, Option.map_eq_some_iff] at e
    obtain ⟨q, e1, e2⟩ := e
    subst e2
    exact .lst (SqL.of h) (DpAll.up2 s _ _ (RepL.dp _ _ _ r e1))
  | dct h r => simp [D.py] at e
  | ins h c r => simp [D.py] at e
end

/-! ### operations on data -/
def oAdd : D → D → Option D
  | .int i, .int j => some (.int (i + j))
  | .str a, .str b => if a.length + b.length ≤ 16777216 then some (.str (a ++ b)) else none
  | .tup xs, .tup ys => if xs.length + ys.length ≤ 16777216 then some (.tup (xs ++ ys)) else none
  | _, _ => none
def oCat : D → D → Option (List D)
  | .lst xs, .lst ys => if xs.length + ys.length ≤ 16777216 then some (xs ++ ys) else none
  | _, _ => none
def oSub : D → D → Option D
  | .int i, .int j => some (.int (i - j))
  | _, _ => none
def oMul : D → D → Option D
  | .int i, .int j => if (-(2 ^ 64) < i ∧ i < 2 ^ 64) ∨ (-(2 ^ 64) < j ∧ j < 2 ^ 64) then some (.int (i * j)) else none
  | _, _ => none
def oDiv : D → D → Option D
  | .int i, .int j => if 0 < j ∧ j < 1073741824 then some (.int (i / j)) else none
  | _, _ => none
def oMod : D → D → Option D
  | .int i, .int j => if 0 < j then some (.int (i % j)) else none
  | _, _ => none
def oPow : D → D → Option D
  | .int i, .int j => if 0 ≤ j ∧ j ≤ 1000000 ∧ i.natAbs < 2 ^ 64 then some (.int (i ^ j.toNat)) else none
  | _, _ => none
def cInt (p : Int → Int → Bool) : D → D → Option Bool
  | .int i, .int j => some (p i j)
  | _, _ => none
abbrev cLt := cInt fun i j => decide (i < j)
abbrev cLe := cInt fun i j => decide (i ≤ j)
abbrev cGt := cInt fun i j => decide (j < i)
abbrev cGe := cInt fun i j => decide (j ≤ i)
/-- == of data -/
def cEq (x y : D) : Option Bool := x.py.bind fun p => y.py.bind fun q => if (SeqAt.shaped p && SeqAt.shaped q) = true then some (PyData.eqv p q) else none
def cNe (x y : D) : Option Bool := (cEq x y).map (!·)
/-- a text among texts -/
def cInS : D → D → Option Bool
  | .str z, .lst xs => (strs? xs).map fun ys => ys.any (· == z)
  | .str z, .tup xs => (strs? xs).map fun ys => ys.any (· == z)
  | _, _ => none
def cNotInS (x y : D) : Option Bool := (cInS x y).map (!·)
/-- a sign in a text -/
def cInC : D → D → Option Bool
  | .str c, .str z => match c.cps.toList with
    | [k] => some (decide (k ∈ z.cps.toList))
    | _ => none
  | _, _ => none
def oIx : D → D → Option D
  | .lst xs, .int i => atI xs i
  | .tup xs, .int i => atI xs i
  | .scr ns, .int i => (atI ns i).map .int
  | .str z, .int i => if z.length ≤ 16777216 then (atI z.cps.toList i).map fun c => .str ⟨#[c]⟩ else none
  | _, _ => none
def look (kvs : List (List Key × D)) (k : List Key) : Option D := (kvs.find? fun kv => decide (kv.1 = k)).map (·.2)
def oGet : D → D → Option D
  | .dct kvs, .tup (k0 :: ks) => (keys? (k0 :: ks)).bind (look kvs)
  | _, _ => none
def cInD : D → D → Option Bool
  | .tup (k0 :: ks), .dct kvs => (keys? (k0 :: ks)).map fun k => (look kvs k).isSome
  | _, _ => none
def cut {α : Type} (xs : List α) (lo hi : Option Int) : List α := (xs.drop (HT.sIx xs.length 0 lo)).take (HT.sIx xs.length xs.length hi - HT.sIx xs.length 0 lo)
/-- a slice of a list (a new list), of a tuple -/
def oSlL : D → Option Int → Option Int → Option (List D)
  | .lst xs, lo, hi => some (cut xs lo hi)
  | .scr ns, lo, hi => some ((cut ns lo hi).map .int)
  | _, _, _ => none
def oSlT : D → Option Int → Option Int → Option D
  | .tup xs, lo, hi => some (.tup (cut xs lo hi))
  | _, _, _ => none
def oLen : D → Option D
  | .lst xs => some (.int xs.length)
  | .tup xs => some (.int xs.length)
  | .scr xs => some (.int xs.length)
  | .str z => if z.length ≤ 16777216 then some (.int z.length) else none
  | _ => none
def oLenD : D → Option D
  | .dct kvs => some (.int kvs.length)
  | _ => none
def oInt : D → Option D
  | .int i => some (.int i)
  | .bl k => some (.int (if k then 1 else 0))
  | _ => none
def oTuple : D → Option D
  | .lst xs => some (.tup xs)
  | .tup xs => some (.tup xs)
  | _ => none
def oList : D → Option (List D)
  | .lst xs => some xs
  | .tup xs => some xs
  | _ => none
def oRange : D → Option (List D)
  | .int n => if 0 ≤ n ∧ n ≤ 16777216 then some ((List.range n.toNat).map fun i => .int (i : Nat)) else none
  | _ => none
def insI (x : Int) : List Int → List Int
  | [] => [x]
  | y :: r => if x ≤ y then x :: y :: r else y :: insI x r
def sortI : List Int → List Int
  | [] => []
  | x :: r => insI x (sortI r)
def oSorted : D → Option (List D)
  | .lst xs => (ints? xs).bind fun ns => if ns.length < 64 then some ((sortI ns).map .int) else none
  | _ => none
def oAll : D → Option D
  | .lst xs => (bls? xs).map fun bs => .bl (bs.all id)
  | _ => none
def oNot : D → Option D
  | .bl b => some (.bl (!b))
  | _ => none
def oBl : D → Option Bool
  | .bl b => some b
  | _ => none
def oAttr (f : Str) : D → Option D
  | .obj _ fs => fs.lookup f
  | _ => none
/-- the type's name, of a value that is not of an own class -/
def tyN : D → Option String
  | .non => some "NoneType"
  | .bl _ => some "bool"
  | .int _ => some "int"
  | .str _ => some "str"
  | .tup _ => some "tuple"
  | .lst _ => some "list"
  | .dct _ => some "dict"
  | _ => none
/-- isinstance(x, T), isinstance(x, (T1, T2)) -/
def isB1 (n : String) (d : D) : Option Bool := (tyN d).bind fun t => kitB t n
def isBs : List String → D → Option Bool
  | [], _ => some false
  | n :: r, d => (isB1 n d).bind fun b => if b then some true else isBs r d

/-! ### names and constants -/
def getD (i : Nat) : Env → R D := fun ρ => match ρ[i]? with
  | some (some (.d x)) => .ok x
  | _ => .stuck
def getB (i : Nat) : Env → R D := fun ρ => match ρ[i]? with
  | some (some (.d x)) => .ok x
  | some (some (.ml xs)) => .ok (.lst xs)
  | some (some (.md xs)) => .ok (.dct xs)
  | some (some (.ob _ n _ fs)) => .ok (.obj n fs)
  | _ => .stuck

section
variable {X : Cx} {W : Wish} {a b c : Expr} {fa fb fc : Env → R D} {pos : Pos}
theorem dv_name (i : Nat) {x : Str} (h : PE X (.Name x pos) (tVar i)) : DV X W (.Name x pos) (getD i) := h.weak fun σ H Q ⟨F0, H0, ρ, F, z, h⟩ => by
  unfold getD at h
  split at h
  · rename_i x e
    obtain ⟨v, e1, r⟩ := z.slot i _ e
    exact ⟨v, e1, h v F H (Grow.refl z.sub) r⟩
  · exact h.elim
theorem db_name (i : Nat) {x : Str} (h : PE X (.Name x pos) (tVar i)) : DB X W (.Name x pos) (getB i) := h.weak fun σ H Q ⟨F0, H0, ρ, F, z, h⟩ => by
  unfold getB at h
  split at h
  · rename_i x e
    obtain ⟨v, e1, r⟩ := z.slot i _ e
    exact ⟨v, e1, h v F H (Grow.refl z.sub) (.rep r)⟩
  · rename_i xs e
    obtain ⟨v, e1, a, vs, e2, _, _, hh, r⟩ := z.slot i _ e
    subst e2
    exact ⟨_, e1, h _ F H (Grow.refl z.sub) (.lst hh r)⟩
  · rename_i xs e
    obtain ⟨v, e1, a, vs, e2, _, _, hh, r⟩ := z.slot i _ e
    subst e2
    exact ⟨_, e1, h _ F H (Grow.refl z.sub) (.dct hh r)⟩
  · rename_i a0 n all fs e
    obtain ⟨v, e1, a, C, dx, vs, e2, _, _, hh, r, c, ca, _⟩ := z.slot i _ e
    subst e2
    exact ⟨_, e1, h _ F H (Grow.refl z.sub) (.ins hh ⟨c.at_, c.cls, fun f hf => c.no f (ca f hf)⟩ r)⟩
  · exact h.elim
theorem dv_b {e : Expr} {f : Env → R D} (h : DV X W e f) : DB X W e f := h.weak fun σ H Q ⟨F0, H0, ρ, F, z, h⟩ => ⟨F0, H0, ρ, F, z, by
  cases q : f ρ with
  | stuck => rw [q] at h; exact h
  | err c => rw [q] at h; exact h
  | ok x => rw [q] at h; exact fun v F' H' g r => h v F' H' g (.rep r)⟩
/-- a new list, for good -/
theorem df_v {e : Expr} {f : Env → R (List D)} (h : DF X W e f) : DV X W e (fun ρ => (f ρ).map .lst) := h.weak fun σ H Q ⟨F0, H0, ρ, F, z, h⟩ => ⟨F0, H0, ρ, F, z, by
  have h : Post W (rV X.K) F H σ ((f ρ).map D.lst) Q := h
  cases q : f ρ with
  | stuck => rw [q] at h; exact h
  | err c => rw [q] at h; exact h
  | ok xs =>
    rw [q] at h
    rintro v F' H' g ⟨a, vs, rfl, h0, hf, hh, r⟩
    have up : Same F' (upd F' a (.lst vs)) := Same.add hf
    refine h (.ref a) (upd F' a (.lst vs)) H' ⟨g.hh, g.ff.trans up, fun b o e => ?_, fun b hb e => ?_⟩ (.lst upd_same (r.mono up))
    · by_cases hb : b = a
      · subst hb; rw [upd_same] at e; cases e; exact hh
      · rw [upd_ne hb] at e; exact g.fh b o e
    · rw [upd_ne (fun q => hb (by rw [q]; exact h0))]; exact g.nn b hb e⟩
theorem df_b {e : Expr} {f : Env → R (List D)} (h : DF X W e f) : DB X W e (fun ρ => (f ρ).map .lst) := dv_b (df_v h)
theorem dv_c {e : Expr} {v : V} {d : D} (h : PE X e (tC v)) (r : ∀ F : Hp, Rep X.K F v d) : DV X W e (fun _ => .ok d) := h.weak fun σ H Q ⟨F0, H0, ρ, F, z, h⟩ => h v F H (Grow.refl z.sub) (r F)
theorem dv_int {i j} : DV X W (.Constant (.int i) j pos) (fun _ => .ok (.int i)) := dv_c pe_int fun _ => .int _
theorem dv_bl {i j} : DV X W (.Constant (.bool i) j pos) (fun _ => .ok (.bl i)) := dv_c pe_bl fun _ => .bl _
theorem dv_non {j} : DV X W (.Constant .none j pos) (fun _ => .ok .non) := dv_c pe_non fun _ => .non
theorem dv_str {i j} : DV X W (.Constant (.str i) j pos) (fun _ => .ok (.str i)) := dv_c pe_str fun _ => .str _

/-! ### operators -/
theorem dv_op {op : Operator} {r : R2} {g : D → D → Option D} (ho : OpR X (binaryOp op) r)
    (hg : ∀ F H v u x y d (Q : VK), Same F H → RepB X.K F H v x → RepB X.K F H u y → g x y = some d → (∀ w F' H', Grow F H F' H' → Rep X.K F' w d → Q w H') → r v u H Q)
    (ha : DB X W a fa) (hb : DB X W b fb) : DV X W (.BinOp a op b pos) (fun ρ => (fa ρ).bind fun x => (fb ρ).bind fun y => R.of (g x y)) :=
  (pe_op ho ha hb).weak fun σ H Q ⟨F0, H0, ρ, F, z, h⟩ => post_bind z rV_early h fun F1 H1 v x z1 g1 r1 h => post_bind z1 rV_early h fun F2 H2 u y z2 g2 r2 h => by
    obtain ⟨d, e, h⟩ := post_of h
    exact hg F2 H2 v u x y d Q z2.sub (r1.up g2) r2 e h
theorem df_op {op : Operator} {r : R2} {g : D → D → Option (List D)} (ho : OpR X (binaryOp op) r)
    (hg : ∀ F H v u x y d (Q : VK), Same F H → RepB X.K F H v x → RepB X.K F H u y → g x y = some d → (∀ w F' H', Grow F H F' H' → rF X.K F H F' H' w d → Q w H') → r v u H Q)
    (ha : DB X W a fa) (hb : DB X W b fb) : DF X W (.BinOp a op b pos) (fun ρ => (fa ρ).bind fun x => (fb ρ).bind fun y => R.of (g x y)) :=
  (pe_op ho ha hb).weak fun σ H Q ⟨F0, H0, ρ, F, z, h⟩ => post_bind z rF_early h fun F1 H1 v x z1 g1 r1 h => post_bind z1 rF_early h fun F2 H2 u y z2 g2 r2 h => by
    obtain ⟨d, e, h⟩ := post_of h
    exact hg F2 H2 v u x y d Q z2.sub (r1.up g2) r2 e h
theorem fin_new {F H : Hp} {K : KF} {Q : VK} {d : D} (s : Same F H) (h : ∀ w F' H', Grow F H F' H' → Rep K F' w d → Q w H') {p : Addr} {o : HO} (hp : H p = none) (r : Same F (upd F p o) → Rep K (upd F p o) (.ref p) d) : Q (.ref p) (upd H p o) :=
  h _ _ _ (Grow.new s hp) (r (Same.add (s.out hp)))
theorem fin_own {F H : Hp} {K : KF} {Q : VK} {xs : List D} {vs : List V} (s : Same F H) (h : ∀ w F' H', Grow F H F' H' → rF K F H F' H' w xs → Q w H') {p : Addr} (hp : H p = none) (r : RepL K F vs xs) : Q (.ref p) (upd H p (.lst vs)) :=
  h _ _ _ (Grow.own s hp) ⟨p, vs, rfl, hp, s.out hp, upd_same, r⟩
theorem dv_add (ha : DB X W a fa) (hb : DB X W b fb) : DV X W (.BinOp a .Add b pos) (fun ρ => (fa ρ).bind fun x => (fb ρ).bind fun y => R.of (oAdd x y)) := by
  refine dv_op (op_add.or (op_add_str.or op_catA)) (fun F H v u x y d Q s r1 r2 e h => ?_) ha hb
  unfold oAdd at e
  split at e
  · cases e
    exact .inl ⟨_, _, r1.int, r2.int, h _ _ _ (Grow.refl s) (.int _)⟩
  · split at e
    · rename_i hl
      cases e
      exact .inr (.inl ⟨_, _, r1.str, r2.str, by rw [sizeLine_eq]; exact hl, h _ _ _ (Grow.refl s) (.str _)⟩)
    · cases e
  · split at e
    · rename_i xs ys hl
      cases e
      obtain ⟨a1, vs, rfl, f1, q1⟩ := r1.tup
      obtain ⟨a2, us, rfl, f2, q2⟩ := r2.tup
      refine .inr (.inr ⟨a1, a2, vs, us, rfl, rfl, f1.sq2 s, f2.sq2 s, by rw [sizeLine_eq, q1.len, q2.len]; exact hl, fun e => ?_, fun _ e => ?_, fun _ _ p hp => ?_⟩)
      · subst e
        cases q1
        exact h _ _ _ (Grow.refl s) (.tup f2 q2)
      · subst e
        cases q2
        rw [List.append_nil] at h
        exact h _ _ _ (Grow.refl s) (.tup f1 q1)
      · exact fin_new s h hp fun up => .tup (.of upd_same) ((q1.app q2).mono up)
    · cases e
  · cases e
theorem df_cat (ha : DB X W a fa) (hb : DB X W b fb) : DF X W (.BinOp a .Add b pos) (fun ρ => (fa ρ).bind fun x => (fb ρ).bind fun y => R.of (oCat x y)) := by
  refine df_op op_cat (fun F H v u x y d Q s r1 r2 e h => ?_) ha hb
  unfold oCat at e
  split at e
  · split at e
    · rename_i xs ys hl
      cases e
      obtain ⟨a1, vs, rfl, f1, q1⟩ := r1.lst' s
      obtain ⟨a2, us, rfl, f2, q2⟩ := r2.lst' s
      exact ⟨a1, a2, vs, us, rfl, rfl, f1, f2, by rw [sizeLine_eq, q1.len, q2.len]; exact hl, fun p hp => fin_own s h hp (q1.app q2)⟩
    · cases e
  · cases e
theorem dv_sub (ha : DB X W a fa) (hb : DB X W b fb) : DV X W (.BinOp a .Sub b pos) (fun ρ => (fa ρ).bind fun x => (fb ρ).bind fun y => R.of (oSub x y)) := by
  refine dv_op op_sub (fun F H v u x y d Q s r1 r2 e h => ?_) ha hb
  unfold oSub at e
  split at e
  · cases e; exact ⟨_, _, r1.int, r2.int, h _ _ _ (Grow.refl s) (.int _)⟩
  · cases e
theorem dv_mul (ha : DB X W a fa) (hb : DB X W b fb) : DV X W (.BinOp a .Mult b pos) (fun ρ => (fa ρ).bind fun x => (fb ρ).bind fun y => R.of (oMul x y)) := by
  refine dv_op op_mul (fun F H v u x y d Q s r1 r2 e h => ?_) ha hb
  unfold oMul at e
  split at e
  · split at e
    · rename_i hc
      cases e; exact ⟨_, _, r1.int, r2.int, hc, h _ _ _ (Grow.refl s) (.int _)⟩
    · cases e
  · cases e
theorem dv_div (ha : DB X W a fa) (hb : DB X W b fb) : DV X W (.BinOp a .FloorDiv b pos) (fun ρ => (fa ρ).bind fun x => (fb ρ).bind fun y => R.of (oDiv x y)) := by
  refine dv_op op_fdiv (fun F H v u x y d Q s r1 r2 e h => ?_) ha hb
  unfold oDiv at e
  split at e
  · split at e
    · rename_i hc
      cases e; exact ⟨_, _, r1.int, r2.int, hc, h _ _ _ (Grow.refl s) (.int _)⟩
    · cases e
  · cases e
theorem dv_mod (ha : DB X W a fa) (hb : DB X W b fb) : DV X W (.BinOp a .Mod b pos) (fun ρ => (fa ρ).bind fun x => (fb ρ).bind fun y => R.of (oMod x y)) := by
  refine dv_op op_mod (fun F H v u x y d Q s r1 r2 e h => ?_) ha hb
  unfold oMod at e
  split at e
  · split at e
    · rename_i hc
      cases e; exact ⟨_, _, r1.int, r2.int, hc, h _ _ _ (Grow.refl s) (.int _)⟩
    · cases e
  · cases e
theorem dv_pow (ha : DB X W a fa) (hb : DB X W b fb) : DV X W (.BinOp a .Pow b pos) (fun ρ => (fa ρ).bind fun x => (fb ρ).bind fun y => R.of (oPow x y)) := by
  refine dv_op op_pow (fun F H v u x y d Q s r1 r2 e h => ?_) ha hb
  unfold oPow at e
  split at e
  · split at e
    · rename_i hc
      cases e; exact ⟨_, _, r1.int, r2.int, hc, h _ _ _ (Grow.refl s) (.int _)⟩
    · cases e
  · cases e

/-! ### comparisons -/
/-- a comparison's rule over data -/
def CmpD (X : Cx) (r : R2) (g : D → D → Option Bool) : Prop := ∀ F H v u x y k (Q : VK), Same F H → RepB X.K F H v x → RepB X.K F H u y → g x y = some k → Q (.bl k) H → r v u H Q
theorem dv_cmp {op : CmpOp} {r : R2} {g : D → D → Option Bool} (ho : OpR X (compareOp op) r) (hg : CmpD X r g) (ha : DB X W a fa) (hb : DB X W b fb) (hm : behindInMarks op b = false) :
    DV X W (.Compare a [op] [b] pos) (fun ρ => (fa ρ).bind fun x => (fb ρ).bind fun y => R.of ((g x y).map .bl)) :=
  (pe_cmpR ho ha hb hm).weak fun σ H Q ⟨F0, H0, ρ, F, z, h⟩ => post_bind z rV_early h fun F1 H1 v x z1 g1 r1 h => post_bind z1 rV_early h fun F2 H2 u y z2 g2 r2 h => by
    obtain ⟨d, e, h⟩ := post_of h
    obtain ⟨k, e1, e2⟩ := Option.map_eq_some_iff.mp e
    subst e2
    exact hg F2 H2 v u x y k Q z2.sub (r1.up g2) r2 e1 (h _ _ _ (Grow.refl z2.sub) (.bl k))
theorem dt_cmp {op : CmpOp} {r : R2} {g : D → D → Option Bool} (ho : OpR X (compareOp op) r) (hg : CmpD X r g) (ha : DB X W a fa) (hb : DB X W b fb) (hm : behindInMarks op b = false) :
    DT X W (.Compare a [op] [b] pos) (fun ρ => (fa ρ).bind fun x => (fb ρ).bind fun y => R.of (g x y)) :=
  (pt_cmpR ho ha hb hm).weak fun σ H Q ⟨F0, H0, ρ, F, z, h⟩ => post_bind z rT_early h fun F1 H1 v x z1 g1 r1 h => post_bind z1 rT_early h fun F2 H2 u y z2 g2 r2 h => by
    obtain ⟨k, e, h⟩ := post_of h
    exact hg F2 H2 v u x y k _ z2.sub (r1.up g2) r2 e ⟨k, rfl, h _ _ _ (Grow.refl z2.sub) rfl⟩
theorem cd_int {p : Int → Int → Bool} : CmpD X (rI0 fun i j => .bl (p i j)) (cInt p) := fun F H v u x y k Q s r1 r2 e h => by
  unfold cInt at e
  split at e
  · cases e; exact ⟨_, _, r1.int, r2.int, h⟩
  · cases e
theorem cd_eq : CmpD X (rEqD X.K) cEq := fun F H v u x y k Q s r1 r2 e h => by
  unfold cEq at e
  simp only [Option.bind_eq_some_iff] at e
  obtain ⟨p, e1, q, e2, e3⟩ := e
  split at e3
  · rename_i hs
    cases e3
    obtain ⟨s1, s2⟩ := Bool.and_eq_true_iff.mp hs
    exact ⟨p, q, r1.dp s e1, r2.dp s e2, s1, s2, h⟩
  · cases e3
theorem cd_ne : CmpD X (rNeD X.K) cNe := fun F H v u x y k Q s r1 r2 e h => by
  unfold cNe cEq at e
  simp only [Option.map_eq_some_iff, Option.bind_eq_some_iff] at e
  obtain ⟨b, ⟨p, e1, q, e2, e3⟩, e4⟩ := e
  split at e3
  · rename_i hs
    cases e3
    subst e4
    obtain ⟨s1, s2⟩ := Bool.and_eq_true_iff.mp hs
    exact ⟨p, q, r1.dp s e1, r2.dp s e2, s1, s2, h⟩
  · cases e3
theorem inV_strs (z : Str) : ∀ ys : List Str, inV (.str z) (ys.map V.str) = ys.any (· == z)
  | [] => rfl
  | y :: r => by
    show (eqV (.str y) (.str z) || inV (.str z) (r.map V.str)) = _
    rw [inV_strs z r, List.any_cons]; rfl
theorem flat_strs2 : ∀ ys : List Str, (ys.map V.str).all flatV = true
  | [] => rfl
  | y :: r => by rw [List.map_cons, List.all_cons, flat_strs2 r]; rfl
theorem cd_inS : CmpD X (rIn X.K false) cInS := fun F H v u x y k Q s r1 r2 e h => by
  unfold cInS at e
  split at e
  · obtain ⟨ys, e1, e2⟩ := Option.map_eq_some_iff.mp e
    obtain ⟨a, vs, rfl, f, q⟩ := r2.lst' s
    have ev := q.strs e1
    have ex := r1.str
    subst ev ex e2
    refine ⟨a, _, rfl, .inl (SqL.of f), rfl, flat_strs2 _, ?_⟩
    rw [inV_strs]; exact h
  · obtain ⟨ys, e1, e2⟩ := Option.map_eq_some_iff.mp e
    obtain ⟨a, vs, rfl, f, q⟩ := r2.tup
    have ev := q.strs e1
    have ex := r1.str
    subst ev ex e2
    refine ⟨a, _, rfl, .inr ((f.sq2 s)), rfl, flat_strs2 _, ?_⟩
    rw [inV_strs]; exact h
  · cases e
theorem cd_notInS : CmpD X (rIn X.K true) cNotInS := fun F H v u x y k Q s r1 r2 e h => by
  unfold cNotInS cInS at e
  split at e
  · obtain ⟨b, e1, e2⟩ := Option.map_eq_some_iff.mp e
    obtain ⟨ys, e3, e4⟩ := Option.map_eq_some_iff.mp e1
    obtain ⟨a, vs, rfl, f, q⟩ := r2.lst' s
    have ev := q.strs e3
    have ex := r1.str
    subst ev ex e4 e2
    refine ⟨a, _, rfl, .inl (SqL.of f), rfl, flat_strs2 _, ?_⟩
    rw [inV_strs]; exact h
  · obtain ⟨b, e1, e2⟩ := Option.map_eq_some_iff.mp e
    obtain ⟨ys, e3, e4⟩ := Option.map_eq_some_iff.mp e1
    obtain ⟨a, vs, rfl, f, q⟩ := r2.tup
    have ev := q.strs e3
    have ex := r1.str
    subst ev ex e4 e2
    refine ⟨a, _, rfl, .inr ((f.sq2 s)), rfl, flat_strs2 _, ?_⟩
    rw [inV_strs]; exact h
  · cases e
theorem cd_inC : CmpD X (fun x y H Q => ∃ (c : Nat) (z : Str), x = .str ⟨#[c]⟩ ∧ y = .str z ∧ Q (.bl (decide (c ∈ z.cps.toList))) H) cInC := fun F H v u x y k Q s r1 r2 e h => by
  unfold cInC at e
  split at e
  · rename_i c z
    split at e
    · rename_i k' e'
      cases e
      have ex := r1.str
      have ey := r2.str
      refine ⟨k', z, ?_, ey, h⟩
      rw [ex]
      obtain ⟨cs⟩ := c
      have : cs = #[k'] := by rw [← Array.toList_inj]; exact e'
      rw [this]
    · cases e
  · cases e
end
end DL
/-! DL3: tests, items, slices, displays, calls, attributes. -/
namespace DL
open PySem PySem.Spec PyProof.Rows L2

abbrev DW (X : Cx) (W : Wish) (e : Expr) (f : Env → R Bool) : Prop := PW X e (tG X.K W rT f)
section
variable {X : Cx} {W : Wish} {a b c e : Expr} {fa fb fc : Env → R D} {ta tb tc : Env → R Bool} {pos : Pos} {rest : List Expr}
theorem post_if {β α : Type} {r : Rel β α} {F H : Hp} {σ : L2.St} {k : Bool} {x y : R α} {Q : β → Hp → Prop} {A B : Prop} (h : Post W r F H σ (if k = true then x else y) Q) (h1 : Post W r F H σ x Q → A) (h2 : Post W r F H σ y Q → B) : if k = true then A else B := by
  cases k with
  | true => exact h1 h
  | false => exact h2 h
theorem pwWeak {t t' : TT} (h : PW X e t) (w : ∀ σ H Q, t' σ H Q → t σ H Q) : PW X e t' := ⟨fun wh pins s σ H Q I q => h.run wh pins s σ H Q I (w σ H Q q)⟩
/-- the value as a test -/
theorem dt_val (h : DB X W e fa) (he : ∀ whole, isTrue e X.env whole = (do let v ← whole; standAt e.pos; holding [v] (truthy v)) := by intro _; rfl) : DT X W e (fun ρ => (fa ρ).bind fun x => R.of (oBl x)) :=
  (pt_val h he).weak fun σ H Q ⟨F0, H0, ρ, F, z, h⟩ => post_bind z rT_early h fun F1 H1 v x z1 g1 r1 h => by
    obtain ⟨k, e, hQ⟩ := post_of h
    clear h
    have h := hQ
    clear hQ
    unfold oBl at e
    split at e
    · cases e
      exact ⟨_, r1.bl, h _ _ _ (Grow.refl z1.sub) rfl⟩
    · cases e
theorem dw_and1 (h : DT X W a ta) : DW X W (.BoolOp .And [a] pos) ta := pw_and1 h
theorem dw_or1 (h : DT X W a ta) : DW X W (.BoolOp .Or [a] pos) ta := pw_or1 h
theorem dw_and (ha : DT X W a ta) (hb : DW X W (.BoolOp .And (b :: rest) pos) tb) : DW X W (.BoolOp .And (a :: b :: rest) pos) (fun ρ => (ta ρ).bind fun k => if k = true then tb ρ else .ok false) :=
  pwWeak (pw_and ha hb) fun σ H Q ⟨F0, H0, ρ, F, z, h⟩ => post_bind z rT_early h fun F1 H1 k x z1 g1 r1 h => by
    cases r1
    exact post_if h (fun h => ⟨F0, H0, ρ, F1, z1, h⟩) fun h => h _ _ _ (Grow.refl z1.sub) rfl
theorem dw_or (ha : DT X W a ta) (hb : DW X W (.BoolOp .Or (b :: rest) pos) tb) : DW X W (.BoolOp .Or (a :: b :: rest) pos) (fun ρ => (ta ρ).bind fun k => if k = true then .ok true else tb ρ) :=
  pwWeak (pw_or ha hb) fun σ H Q ⟨F0, H0, ρ, F, z, h⟩ => post_bind z rT_early h fun F1 H1 k x z1 g1 r1 h => by
    cases r1
    exact post_if h (fun h => h _ _ _ (Grow.refl z1.sub) rfl) fun h => ⟨F0, H0, ρ, F1, z1, h⟩
theorem dt_not (ha : DT X W a ta) : DT X W (.UnaryOp .Not a pos) (fun ρ => (ta ρ).bind fun k => .ok (!k)) :=
  (pt_not ha).weak fun σ H Q ⟨F0, H0, ρ, F, z, h⟩ => post_bind z rT_early h fun F1 H1 k x z1 g1 r1 h => by
    cases r1
    exact h _ _ _ (Grow.refl z1.sub) rfl
/-- .. as values -/
theorem dv_one {op} (h : DV X W a fa) : DV X W (.BoolOp op [a] pos) fa := pe_one h
theorem dv_and (ha : DB X W a fa) (hb : DV X W (.BoolOp .And (b :: rest) pos) fb) : DV X W (.BoolOp .And (a :: b :: rest) pos) (fun ρ => (fa ρ).bind fun x => (R.of (oBl x)).bind fun k => if k = true then fb ρ else .ok (.bl false)) :=
  (pe_and ha hb).weak fun σ H Q ⟨F0, H0, ρ, F, z, h⟩ => post_bind z rV_early h fun F1 H1 v x z1 g1 r1 h => by
    cases x <;> first | exact h.elim | skip
    rename_i k
    exact ⟨k, r1.bl, post_if (show Post W (rV X.K) F1 H1 σ (if k = true then fb ρ else .ok (.bl false)) Q from h) (fun h => ⟨F0, H0, ρ, F1, z1, h⟩) fun h => h _ _ _ (Grow.refl z1.sub) (.bl _)⟩
theorem dv_or (ha : DB X W a fa) (hb : DV X W (.BoolOp .Or (b :: rest) pos) fb) : DV X W (.BoolOp .Or (a :: b :: rest) pos) (fun ρ => (fa ρ).bind fun x => (R.of (oBl x)).bind fun k => if k = true then .ok (.bl true) else fb ρ) :=
  (pe_or ha hb).weak fun σ H Q ⟨F0, H0, ρ, F, z, h⟩ => post_bind z rV_early h fun F1 H1 v x z1 g1 r1 h => by
    cases x <;> first | exact h.elim | skip
    rename_i k
    exact ⟨k, r1.bl, post_if (show Post W (rV X.K) F1 H1 σ (if k = true then .ok (.bl true) else fb ρ) Q from h) (fun h => h _ _ _ (Grow.refl z1.sub) (.bl _)) fun h => ⟨F0, H0, ρ, F1, z1, h⟩⟩
theorem dv_not (ha : DB X W a fa) : DV X W (.UnaryOp .Not a pos) (fun ρ => (fa ρ).bind fun x => R.of (oNot x)) :=
  (pe_not ha).weak fun σ H Q ⟨F0, H0, ρ, F, z, h⟩ => post_bind z rV_early h fun F1 H1 v x z1 g1 r1 h => by
    obtain ⟨k, e, hQ⟩ := post_of h
    clear h
    have h := hQ
    clear hQ
    unfold oNot at e
    split at e
    · cases e
      exact ⟨_, r1.bl, h _ _ _ (Grow.refl z1.sub) (.bl _)⟩
    · cases e
theorem pe_ifG {α : Type} {r : Rel V α} (he : r.Early) {fa fb : Env → R α} (hc : DT X W c tc) (ha : PE X a (tG X.K W r fa)) (hb : PE X b (tG X.K W r fb)) : PE X (.IfExp c a b pos) (tG X.K W r (fun ρ => (tc ρ).bind fun k => if k = true then fa ρ else fb ρ)) :=
  (pe_ifExp hc ha hb).weak fun σ H Q ⟨F0, H0, ρ, F, z, h⟩ => post_bind z he h fun F1 H1 k x z1 g1 r1 h => by
    cases r1
    exact post_if h (fun h => ⟨F0, H0, ρ, F1, z1, h⟩) fun h => ⟨F0, H0, ρ, F1, z1, h⟩
theorem dv_if (hc : DT X W c tc) (ha : DV X W a fa) (hb : DV X W b fb) : DV X W (.IfExp c a b pos) (fun ρ => (tc ρ).bind fun k => if k = true then fa ρ else fb ρ) := pe_ifG rV_early hc ha hb
/-- a op1 b op2 c -/
theorem dv_chain {op op' : CmpOp} {r r' : R2} {g g' : D → D → Option Bool} (ho : OpR X (compareOp op) r) (ho' : OpR X (compareOp op') r') (hg : CmpD X r g) (hg' : CmpD X r' g') (ha : DB X W a fa) (hb : DB X W b fb) (hc : DB X W c fc)
    (hm : lastMarks [op, op'] [b, c] = false := by with_unfolding_all rfl) :
    DV X W (.Compare a [op, op'] [b, c] pos) (fun ρ => (fa ρ).bind fun x => (fb ρ).bind fun y => (R.of (g x y)).bind fun k => if k = true then (fc ρ).bind fun w => R.of ((g' y w).map .bl) else .ok (.bl false)) :=
  (pe_chain ho ho' ha hb hc hm).weak fun σ H Q ⟨F0, H0, ρ, F, z, h⟩ => post_bind z rV_early h fun F1 H1 v x z1 g1 r1 h => post_bind z1 rV_early h fun F2 H2 u y z2 g2 r2 h => by
    cases e : g x y with
    | none => rw [e] at h; exact h.elim
    | some k =>
      rw [e] at h
      refine hg F2 H2 v u x y k _ z2.sub (r1.up g2) r2 e ⟨k, rfl, ?_⟩
      refine post_if (show Post W (rV X.K) F2 H2 σ (if k = true then (fc ρ).bind fun w => R.of ((g' y w).map .bl) else .ok (.bl false)) Q from h) (fun h => post_bind z2 rV_early h fun F3 H3 w t z3 g3 r3 h => ?_) fun h => h _ _ _ (Grow.refl z2.sub) (.bl _)
      obtain ⟨d, e2, hQ⟩ := post_of h
      clear h
      have h := hQ
      clear hQ
      obtain ⟨k', e3, e4⟩ := Option.map_eq_some_iff.mp e2
      subst e4
      exact hg' F3 H3 u w y t k' Q z3.sub (r2.up g3) r3 e3 (h _ _ _ (Grow.refl z3.sub) (.bl _))
theorem dt_chain {op op' : CmpOp} {r r' : R2} {g g' : D → D → Option Bool} (ho : OpR X (compareOp op) r) (ho' : OpR X (compareOp op') r') (hg : CmpD X r g) (hg' : CmpD X r' g') (ha : DB X W a fa) (hb : DB X W b fb) (hc : DB X W c fc)
    (hm : lastMarks [op, op'] [b, c] = false := by with_unfolding_all rfl) :
    DT X W (.Compare a [op, op'] [b, c] pos) (fun ρ => (fa ρ).bind fun x => (fb ρ).bind fun y => (R.of (g x y)).bind fun k => if k = true then (fc ρ).bind fun w => R.of (g' y w) else .ok false) :=
  (pt_chain ho ho' ha hb hc hm).weak fun σ H Q ⟨F0, H0, ρ, F, z, h⟩ => post_bind z rT_early h fun F1 H1 v x z1 g1 r1 h => post_bind z1 rT_early h fun F2 H2 u y z2 g2 r2 h => by
    cases e : g x y with
    | none => rw [e] at h; exact h.elim
    | some k =>
      rw [e] at h
      refine hg F2 H2 v u x y k _ z2.sub (r1.up g2) r2 e ⟨k, rfl, ?_⟩
      refine post_if (show Post W rT F2 H2 σ (if k = true then (fc ρ).bind fun w => R.of (g' y w) else .ok false) Q from h) (fun h => post_bind z2 rT_early h fun F3 H3 w t z3 g3 r3 h => ?_) fun h => ⟨false, rfl, h _ _ _ (Grow.refl z2.sub) rfl⟩
      obtain ⟨k', e3, h⟩ := post_of h
      exact hg' F3 H3 u w y t k' _ z3.sub (r2.up g3) r3 e3 ⟨k', rfl, h _ _ _ (Grow.refl z3.sub) rfl⟩

/-! ### items, slices -/
theorem atI_rep {K : KF} {F : Hp} {vs : List V} {xs : List D} {i : Int} {d : D} (q : RepL K F vs xs) (e : atI xs i = some d) : ∃ v, atI vs i = some v ∧ Rep K F v d := by
  unfold atI at e ⊢
  rw [q.len]
  obtain ⟨j, e1, e2⟩ := Option.bind_eq_some_iff.mp e
  obtain ⟨v, h1, h2⟩ := q.get e2
  exact ⟨v, by rw [e1]; exact h1, h2⟩
theorem atI_map {α β : Type} (f : α → β) (xs : List α) (i : Int) : atI (xs.map f) i = (atI xs i).map f := by
  unfold atI
  rw [List.length_map]
  cases ixN xs.length i with
  | none => rfl
  | some j => simp
theorem dv_ix (ha : DB X W a fa) (hb : DB X W b fb) (hs : PlainIx b := by exact fun _ _ => rfl) : DV X W (.Subscript a b pos) (fun ρ => (fa ρ).bind fun x => (fb ρ).bind fun y => R.of (oIx x y)) :=
  (pe_ix ix_seq ha hb hs).weak fun σ H Q ⟨F0, H0, ρ, F, z, h⟩ => post_bind z rV_early h fun F1 H1 v x z1 g1 r1 h => post_bind z1 rV_early h fun F2 H2 u y z2 g2 r2 h => by
    obtain ⟨d, e, hQ⟩ := post_of h
    clear h
    have h := hQ
    clear hQ
    have r1 := r1.up g2
    have s := z2.sub
    have fin : ∀ w, Rep X.K F2 w d → Q w H2 := fun w r => h _ _ _ (Grow.refl s) r
    unfold oIx at e
    split at e
    · obtain ⟨p, vs, rfl, f, q⟩ := r1.lst' s
      obtain ⟨w, e1, rw⟩ := atI_rep q e
      exact .inl ⟨p, vs, _, w, rfl, r2.int, SqL.of f, e1, fin w rw⟩
    · obtain ⟨p, vs, rfl, f, q⟩ := r1.tup
      obtain ⟨w, e1, rw⟩ := atI_rep q e
      exact .inr (.inl ⟨p, vs, _, w, rfl, r2.int, (f.sq2 s), e1, fin w rw⟩)
    · rename_i ns i
      obtain ⟨p, rfl, f⟩ := r1.scr
      obtain ⟨n, e1, e2⟩ := Option.map_eq_some_iff.mp e
      subst e2
      exact .inl ⟨p, _, _, .int n, rfl, r2.int, s.seq f, by rw [atI_map, e1]; rfl, fin _ (.int n)⟩
    · split at e
      · rename_i hl
        obtain ⟨n, e1, e2⟩ := Option.map_eq_some_iff.mp e
        subst e2
        exact .inr (.inr ⟨_, _, n, r1.str, r2.int, by rw [sizeLine_eq]; exact hl, e1, fin _ (.str _)⟩)
      · cases e
    · cases e
theorem look_rep {K : KF} {F : Hp} {k : List Key} : ∀ {es : List (List Key × V)} {kvs : List (List Key × D)}, RepK K F es kvs → (∀ d, look kvs k = some d → ∃ v, valV es k = some v ∧ Rep K F v d) ∧ (valV es k).isSome = (look kvs k).isSome
  | _, _, .nil => ⟨fun d e => by simp [look] at e, rfl⟩
  | _, _, .cons (f := f) (v := v) (x := x) a t => by
    obtain ⟨h1, h2⟩ := look_rep (k := k) t
    by_cases e : f = k
    · have q1 : ∀ {α : Type} {p : List Key × α} {r}, p.1 = k → ((p :: r).find? fun kv => decide (kv.1 = k)) = some p := fun e => by simp [List.find?_cons, e]
      refine ⟨fun d hd => ?_, ?_⟩
      · unfold look at hd
        rw [q1 e] at hd
        cases hd
        exact ⟨v, by unfold valV; rw [q1 e]; rfl, a⟩
      · unfold look valV
        rw [q1 e, q1 e]; rfl
    · have q1 : ∀ {α : Type} {p : List Key × α} {r}, ¬ p.1 = k → ((p :: r).find? fun kv => decide (kv.1 = k)) = r.find? fun kv => decide (kv.1 = k) := fun e => by simp [List.find?_cons, e]
      refine ⟨fun d hd => ?_, ?_⟩
      · unfold look at hd
        rw [q1 e] at hd
        obtain ⟨w, e1, e2⟩ := h1 d hd
        exact ⟨w, by unfold valV; rw [q1 e]; exact e1, e2⟩
      · unfold look valV
        rw [q1 e, q1 e]; exact h2
/-- d[k], a dict whose keys are tuples -/
theorem dv_get (hu : X.A.units + 1 < cLine) (ha : DB X W a fa) (hb : DV X W b fb) (hs : NoSl b := by exact fun _ _ => rfl) : DV X W (.Subscript a b pos) (fun ρ => (fa ρ).bind fun x => (fb ρ).bind fun y => R.of (oGet x y)) :=
  (pe_dget hu ha hb hs).weak fun σ H Q ⟨F0, H0, ρ, F, z, h⟩ => post_bind z rV_early h fun F1 H1 v x z1 g1 r1 h => post_bind z1 rV_early h fun F2 H2 u y z2 g2 r2 h => by
    obtain ⟨d, e, hF⟩ := post_of h
    have r1 := r1.up g2
    have s := z2.sub
    unfold oGet at e
    split at e
    · obtain ⟨ks, e1, e2⟩ := Option.bind_eq_some_iff.mp e
      obtain ⟨p, es, rfl, f, q⟩ := r1.dct' s
      obtain ⟨p2, vs, rfl, f2, q2⟩ := RepB.tup (H := H2) (.rep r2)
      have nv := q2.ne
      have ev := q2.keys e1
      subst ev
      obtain ⟨w, e3, rw⟩ := (look_rep q).1 d e2
      exact ⟨p, w, rfl, by rw [← e3]; exact DGet.t f (s _ _ (f2.own nv)), hF _ _ _ (Grow.refl s) rw⟩
    · cases e
theorem dt_inD (hu : X.A.units + 1 < cLine) (hb : DV X W b fb) (ha : DB X W a fa) (h1 : behindInMarks .In a = false := by rfl) : DT X W (.Compare b [.In] [a] pos) (fun ρ => (fb ρ).bind fun y => (fa ρ).bind fun x => R.of (cInD y x)) :=
  (pt_cmp (pc_din hu hb ha) h1).weak fun σ H Q ⟨F0, H0, ρ, F, z, h⟩ => post_bind z rT_early h fun F1 H1 u y z1 g1 r2 h => post_bind z1 rT_early h fun F2 H2 v x z2 g2 r1 h => by
    obtain ⟨d, e, hF⟩ := post_of h
    have r2 : Rep X.K F2 u y := Rep.mono r2 g2.ff
    have s := z2.sub
    unfold cInD at e
    split at e
    · obtain ⟨ks, e1, e2⟩ := Option.map_eq_some_iff.mp e
      obtain ⟨p, es, rfl, f, q⟩ := r1.dct' s
      obtain ⟨p2, vs, rfl, f2, q2⟩ := RepB.tup (H := H2) (.rep r2)
      have nv := q2.ne
      have ev := q2.keys e1
      subst ev e2
      refine ⟨p, valV es ks, rfl, DGet.t f (s _ _ (f2.own nv)), _, rfl, ?_⟩
      rw [(look_rep q).2]
      exact hF _ _ _ (Grow.refl s) rfl
    · cases e
theorem dv_notInD (hu : X.A.units + 1 < cLine) (hb : DV X W b fb) (ha : DB X W a fa) (h1 : behindInMarks .NotIn a = false := by rfl) : DV X W (.Compare b [.NotIn] [a] pos) (fun ρ => (fb ρ).bind fun y => (fa ρ).bind fun x => R.of ((cInD y x).map fun k => .bl (!k))) :=
  (pe_cmp (pc_dnotin hu hb ha) h1).weak fun σ H Q ⟨F0, H0, ρ, F, z, h⟩ => post_bind z rV_early h fun F1 H1 u y z1 g1 r2 h => post_bind z1 rV_early h fun F2 H2 v x z2 g2 r1 h => by
    obtain ⟨d, e, hF⟩ := post_of h
    obtain ⟨k, e, e'⟩ := Option.map_eq_some_iff.mp e
    have r2 : Rep X.K F2 u y := Rep.mono r2 g2.ff
    have s := z2.sub
    unfold cInD at e
    split at e
    · obtain ⟨ks, e1, e2⟩ := Option.map_eq_some_iff.mp e
      obtain ⟨p, es, rfl, f, q⟩ := r1.dct' s
      obtain ⟨p2, vs, rfl, f2, q2⟩ := RepB.tup (H := H2) (.rep r2)
      have nv := q2.ne
      have ev := q2.keys e1
      subst ev e2 e'
      refine ⟨p, valV es ks, rfl, DGet.t f (s _ _ (f2.own nv)), ?_⟩
      rw [(look_rep q).2]
      exact hF _ _ _ (Grow.refl s) (.bl _)
    · cases e

def rP : Rel (Option Int) (Option Int) := fun _ _ _ _ b x => b = x
theorem poWeak {e : Option Expr} {t t' : TO} (h : PO X e t) (w : ∀ σ H Q, t' σ H Q → t σ H Q) : PO X e t' := ⟨fun pins s σ H Q I q => h.run pins s σ H Q I (w σ H Q q)⟩
abbrev DP (X : Cx) (W : Wish) (e : Option Expr) (f : Env → R (Option Int)) : Prop := PO X e (tG X.K W rP f)
def oI : D → Option (Option Int)
  | .int i => some (some i)
  | _ => none
theorem dp_none : DP X W none (fun _ => .ok none) := poWeak po_none fun σ H Q ⟨F0, H0, ρ, F, z, h⟩ => h _ _ _ (Grow.refl z.sub) rfl
theorem dp_some (h : DB X W e fa) : DP X W (some e) (fun ρ => (fa ρ).bind fun x => R.of (oI x)) := poWeak (po_some h) fun σ H Q ⟨F0, H0, ρ, F, z, h⟩ => post_bind z (show rP.Early from fun _ _ _ _ _ _ _ _ _ h => h) h fun F1 H1 v x z1 g1 r1 h => by
  obtain ⟨k, e, hQ⟩ := post_of h
  clear h
  have h := hQ
  clear hQ
  unfold oI at e
  split at e
  · cases e
    exact ⟨_, r1.int, h _ _ _ (Grow.refl z1.sub) rfl⟩
  · cases e
variable {lo hi : Option Expr} {fl fh : Env → R (Option Int)} {p2 : Pos}
theorem RepL.cut {K : KF} {F : Hp} {vs : List V} {xs : List D} (q : RepL K F vs xs) (lo hi : Option Int) : RepL K F (cutV vs lo hi) (cut xs lo hi) := by
  unfold cutV DL.cut
  rw [q.len]
  exact (q.drop _).take _
theorem cut_map {α β : Type} (f : α → β) (xs : List α) (lo hi : Option Int) : cut (xs.map f) lo hi = (cut xs lo hi).map f := by
  unfold cut
  rw [List.length_map, List.map_take, List.map_drop]
theorem cutV_ints (ns : List Int) (lo hi : Option Int) : cutV (ns.map V.int) lo hi = (cut ns lo hi).map V.int := cut_map V.int ns lo hi
theorem df_slice (ha : DB X W a fa) (hl : DP X W lo fl) (hh : DP X W hi fh) : DF X W (.Subscript a (.Slice lo hi none p2) pos) (fun ρ => (fa ρ).bind fun x => (fl ρ).bind fun l => (fh ρ).bind fun u => R.of (oSlL x l u)) :=
  (pe_slice sl_list ha hl hh).weak fun σ H Q ⟨F0, H0, ρ, F, z, h⟩ => post_bind z rF_early h fun F1 H1 v x z1 g1 r1 h => post_bind z1 rF_early h fun F2 H2 l l' z2 g2 r2 h => post_bind z2 rF_early h fun F3 H3 u u' z3 g3 r3 h => by
    cases r2
    cases r3
    obtain ⟨d, e, hQ⟩ := post_of h
    clear h
    have h := hQ
    clear hQ
    have r1 := (r1.up g2).up g3
    have s := z3.sub
    unfold oSlL at e
    split at e
    · cases e
      obtain ⟨p, vs, rfl, f, q⟩ := r1.lst' s
      exact ⟨p, vs, rfl, SqL.of f, fun p hp => fin_own s h hp (q.cut _ _)⟩
    · cases e
      obtain ⟨p, rfl, f⟩ := r1.scr
      rename_i ns
      refine ⟨p, _, rfl, s.seq f, fun p hp => fin_own s h hp ?_⟩
      rw [cutV_ints]
      exact RepL.ofInts _
    · cases e
theorem cut_all {α : Type} (xs : List α) (lo hi : Option Int) (h : HT.sIx xs.length 0 lo = 0 ∧ HT.sIx xs.length xs.length hi = xs.length) : cut xs lo hi = xs := by
  unfold cut
  rw [h.1, h.2]
  simp
theorem dv_sliceT (ha : DB X W a fa) (hl : DP X W lo fl) (hh : DP X W hi fh) : DV X W (.Subscript a (.Slice lo hi none p2) pos) (fun ρ => (fa ρ).bind fun x => (fl ρ).bind fun l => (fh ρ).bind fun u => R.of (oSlT x l u)) :=
  (pe_slice sl_tupA ha hl hh).weak fun σ H Q ⟨F0, H0, ρ, F, z, h⟩ => post_bind z rV_early h fun F1 H1 v x z1 g1 r1 h => post_bind z1 rV_early h fun F2 H2 l l' z2 g2 r2 h => post_bind z2 rV_early h fun F3 H3 u u' z3 g3 r3 h => by
    cases r2
    cases r3
    obtain ⟨d, e, hQ⟩ := post_of h
    clear h
    have h := hQ
    clear hQ
    have r1 := (r1.up g2).up g3
    have s := z3.sub
    unfold oSlT at e
    split at e
    · cases e
      obtain ⟨p, vs, rfl, f, q⟩ := r1.tup
      refine ⟨p, vs, rfl, (f.sq2 s), fun w => ?_, fun _ p hp => fin_new s h hp fun up => .tup (.of upd_same) ((q.cut _ _).mono up)⟩
      rw [cut_all _ _ _ (by rw [← q.len]; exact w)] at h
      exact h _ _ _ (Grow.refl s) (.tup f q)
    · cases e
/-- a slice of a row, list or tuple -/
theorem dv_sliceR (ha : DB X W a fa) (hl : DP X W lo fl) (hh : DP X W hi fh) : DV X W (.Subscript a (.Slice lo hi none p2) pos) (fun ρ => (fa ρ).bind fun x => (fl ρ).bind fun l => (fh ρ).bind fun u => R.of (match oSlL x l u with
    | some xs => some (.lst xs)
    | none => oSlT x l u)) :=
  (pe_slice (sl_list.or sl_tupA) ha hl hh).weak fun σ H Q ⟨F0, H0, ρ, F, z, h⟩ => post_bind z rV_early h fun F1 H1 v x z1 g1 r1 h => post_bind z1 rV_early h fun F2 H2 l l' z2 g2 r2 h => post_bind z2 rV_early h fun F3 H3 u u' z3 g3 r3 h => by
    cases r2
    cases r3
    obtain ⟨d, e, hQ⟩ := post_of h
    clear h
    have h := hQ
    clear hQ
    have r1 := (r1.up g2).up g3
    have s := z3.sub
    cases x <;> simp only [oSlL, oSlT] at e <;> first | (cases e; done) | skip
    · cases e
      obtain ⟨p, vs, rfl, f, q⟩ := r1.tup
      refine .inr ⟨p, vs, rfl, (f.sq2 s), fun w => ?_, fun _ p hp => fin_new s h hp fun up => .tup (.of upd_same) ((q.cut _ _).mono up)⟩
      rw [cut_all _ _ _ (by rw [← q.len]; exact w)] at h
      exact h _ _ _ (Grow.refl s) (.tup f q)
    · cases e
      obtain ⟨p, vs, rfl, f, q⟩ := r1.lst' s
      exact .inl ⟨p, vs, rfl, SqL.of f, fun p hp => fin_new s h hp fun up => .lst upd_same ((q.cut _ _).mono up)⟩
    · cases e
      obtain ⟨p, rfl, f⟩ := r1.scr
      refine .inl ⟨p, _, rfl, s.seq f, fun p hp => fin_new s h hp fun up => .lst upd_same ?_⟩
      rw [cutV_ints]
      exact RepL.ofInts _

/-! ### displays -/
variable {es : List Expr} {fs : Env → R (List D)}
theorem da_nil : DA X W [] (fun _ => .ok []) := pa_nil.weak fun σ H Q ⟨F0, H0, ρ, F, z, h⟩ => h _ _ _ (Grow.refl z.sub) .nil
theorem da_cons (ha : DV X W a fa) (hr : DA X W es fs) (hs : starEach (a :: es) X.env = (false, eval a X.env) :: starEach es X.env := by rfl) : DA X W (a :: es) (fun ρ => (fa ρ).bind fun x => (fs ρ).bind fun xs => .ok (x :: xs)) :=
  (pa_cons ha hr hs).weak fun σ H Q ⟨F0, H0, ρ, F, z, h⟩ => post_bind z rA_early h fun F1 H1 v x z1 g1 r1 h => post_bind z1 rA_early h fun F2 H2 vs xs z2 g2 r2 h =>
    h _ _ _ (Grow.refl z2.sub) (.cons (Rep.mono r1 g2.ff) r2)
def mkL (xs : List D) : Option (List D) := if xs.length ≤ 16777216 then some xs else none
theorem dv_tup {x1} (h : DA X W es fs) : DV X W (.Tuple es x1 pos) (fun ρ => (fs ρ).bind fun xs => R.of ((mkL xs).map .tup)) :=
  (pe_tup h).weak fun σ H Q ⟨F0, H0, ρ, F, z, h⟩ => post_bind z rV_early h fun F1 H1 vs xs z1 g1 r1 h => by
    obtain ⟨d, e, hQ⟩ := post_of h
    clear h
    have h := hQ
    clear hQ
    obtain ⟨ys, e1, e2⟩ := Option.map_eq_some_iff.mp e
    unfold mkL at e1
    split at e1
    · rename_i hl
      cases e1
      subst e2
      exact ⟨by rw [sizeLine_eq, RepL.len r1]; exact hl, fun p hp => fin_new z1.sub h hp fun up => .tup (.of upd_same) (RepL.mono r1 up)⟩
    · cases e1
theorem df_lst (h : DA X W es fs) : DF X W (.List es pos) (fun ρ => (fs ρ).bind fun xs => R.of (mkL xs)) :=
  (pe_lst h).weak fun σ H Q ⟨F0, H0, ρ, F, z, h⟩ => post_bind z rF_early h fun F1 H1 vs xs z1 g1 r1 h => by
    obtain ⟨d, e1, hQ⟩ := post_of h
    clear h
    have h := hQ
    clear hQ
    unfold mkL at e1
    split at e1
    · rename_i hl
      cases e1
      exact ⟨by rw [sizeLine_eq, RepL.len r1]; exact hl, fun p hp => fin_own z1.sub h hp r1⟩
    · cases e1

/-! ### attributes -/
theorem mem_of_look {f : Str} {d : D} : ∀ {fs : List (Str × D)}, fs.lookup f = some d → f ∈ fs.map (·.1)
  | [], e => by simp at e
  | (g, x) :: r, e => by
    rw [List.lookup_cons] at e
    cases hb : f == g with
    | true => rw [List.map_cons]; exact List.mem_cons.mpr (.inl (by simpa using hb))
    | false =>
      rw [hb] at e
      rw [List.map_cons]
      exact List.mem_cons_of_mem _ (mem_of_look e)
theorem dv_attr {f : Str} (ha : DB X W a fa) (hb : attributeBase a f X.env (eval a X.env) = eval a X.env := by rfl) : DV X W (.Attribute a f pos) (fun ρ => (fa ρ).bind fun x => R.of (oAttr f x)) :=
  (pe_fld ha hb).weak fun σ H Q ⟨F0, H0, ρ, F, z, h⟩ => post_bind z rV_early h fun F1 H1 v x z1 g1 r1 h => by
    obtain ⟨d, e, hF⟩ := post_of h
    unfold oAttr at e
    split at e
    · obtain ⟨p, C, dx, es, rfl, f1, c, q⟩ := r1.obj z1.sub
      obtain ⟨w, e1, rw⟩ := q.look e
      exact ⟨p, C, dx, es, w, rfl, f1, c.cls, c.no _ (mem_of_look e), e1, hF _ _ _ (Grow.refl z1.sub) rw⟩
    · cases e

/-! ### built-in functions of one argument -/
theorem dv_b1 {x : Str} {id : String} {r : List V → Hp → VK → Prop} {g : D → Option D} (hc : CallR X (.builtin id) r)
    (hq : ∀ F H v y d (Q : VK), Same F H → RepB X.K F H v y → g y = some d → (∀ w F' H', Grow F H F' H' → Rep X.K F' w d → Q w H') → r [v] H Q)
    (hg : Gl X x) (hm : X.mg x = none) (hv : bootBuiltins x = some (.builtin id)) (ha : DB X W a fa) {p : Pos} (hn : x ≠ "__name__" := by decide) (hdb : (x == ("__debug__" : Str)) = false := by decide)
    (he : starEach (a :: []) X.env = (false, eval a X.env) :: starEach [] X.env := by rfl) (hpl : (backTo pos (starEach [] X.env)).any (·.1) = false := by rfl) :
    DV X W (.Call (.Name x p) [a] [] pos) (fun ρ => (fa ρ).bind fun y => R.of (g y)) :=
  (pe_callB hc hg hm hv (pa_cons ha pa_nil he) hn hdb he hpl).weak fun σ H Q ⟨F0, H0, ρ, F, z, h⟩ => post_bind z rV_early h fun F1 H1 v y z1 g1 r1 h => by
    obtain ⟨d, e, hQ⟩ := post_of h
    clear h
    have h := hQ
    clear hQ
    exact hq F1 H1 v y d Q z1.sub r1 e h
end
end DL
/-! DL4: built-in calls, calls of one's own functions, what is walked. -/
namespace DL
open PySem PySem.Spec PyProof.Rows L2
section
variable {X : Cx} {W : Wish} {a b c e : Expr} {fa fb fc : Env → R D} {pos p : Pos} {x : Str}
theorem df_b1 {id : String} {r : List V → Hp → VK → Prop} {g : D → Option (List D)} (hc : CallR X (.builtin id) r)
    (hq : ∀ F H v y d (Q : VK), Same F H → RepB X.K F H v y → g y = some d → (∀ w F' H', Grow F H F' H' → rF X.K F H F' H' w d → Q w H') → r [v] H Q)
    (hg : Gl X x) (hm : X.mg x = none) (hv : bootBuiltins x = some (.builtin id)) (ha : DB X W a fa) (hn : x ≠ "__name__" := by decide) (hdb : (x == ("__debug__" : Str)) = false := by decide)
    (he : starEach (a :: []) X.env = (false, eval a X.env) :: starEach [] X.env := by rfl) (hpl : (backTo pos (starEach [] X.env)).any (·.1) = false := by rfl) :
    DF X W (.Call (.Name x p) [a] [] pos) (fun ρ => (fa ρ).bind fun y => R.of (g y)) :=
  (pe_callB hc hg hm hv (pa_cons ha pa_nil he) hn hdb he hpl).weak fun σ H Q ⟨F0, H0, ρ, F, z, h⟩ => post_bind z rF_early h fun F1 H1 v y z1 g1 r1 h => by
    obtain ⟨d, e, hF⟩ := post_of h
    exact hq F1 H1 v y d Q z1.sub r1 e hF
theorem dv_t1 {T : String} {r : List V → Hp → VK → Prop} {g : D → Option D} (hc : CallR X (.type T) r)
    (hq : ∀ F H v y d (Q : VK), Same F H → RepB X.K F H v y → g y = some d → (∀ w F' H', Grow F H F' H' → Rep X.K F' w d → Q w H') → r [v] H Q)
    (hg : Gl X x) (hm : X.mg x = none) (hv : bootBuiltins x = some (.type T)) (ha : DB X W a fa) (hn : x ≠ "__name__" := by decide) (hdb : (x == ("__debug__" : Str)) = false := by decide)
    (he : starEach (a :: []) X.env = (false, eval a X.env) :: starEach [] X.env := by rfl) (hpl : (backTo pos (starEach [] X.env)).any (·.1) = false := by rfl) :
    DV X W (.Call (.Name x p) [a] [] pos) (fun ρ => (fa ρ).bind fun y => R.of (g y)) :=
  (pe_callTy hc hg hm hv (pa_cons ha pa_nil he) hn hdb he hpl).weak fun σ H Q ⟨F0, H0, ρ, F, z, h⟩ => post_bind z rV_early h fun F1 H1 v y z1 g1 r1 h => by
    obtain ⟨d, e, hF⟩ := post_of h
    exact hq F1 H1 v y d Q z1.sub r1 e hF
theorem df_t1 {T : String} {r : List V → Hp → VK → Prop} {g : D → Option (List D)} (hc : CallR X (.type T) r)
    (hq : ∀ F H v y d (Q : VK), Same F H → RepB X.K F H v y → g y = some d → (∀ w F' H', Grow F H F' H' → rF X.K F H F' H' w d → Q w H') → r [v] H Q)
    (hg : Gl X x) (hm : X.mg x = none) (hv : bootBuiltins x = some (.type T)) (ha : DB X W a fa) (hn : x ≠ "__name__" := by decide) (hdb : (x == ("__debug__" : Str)) = false := by decide)
    (he : starEach (a :: []) X.env = (false, eval a X.env) :: starEach [] X.env := by rfl) (hpl : (backTo pos (starEach [] X.env)).any (·.1) = false := by rfl) :
    DF X W (.Call (.Name x p) [a] [] pos) (fun ρ => (fa ρ).bind fun y => R.of (g y)) :=
  (pe_callTy hc hg hm hv (pa_cons ha pa_nil he) hn hdb he hpl).weak fun σ H Q ⟨F0, H0, ρ, F, z, h⟩ => post_bind z rF_early h fun F1 H1 v y z1 g1 r1 h => by
    obtain ⟨d, e, hF⟩ := post_of h
    exact hq F1 H1 v y d Q z1.sub r1 e hF

/-- len -/
theorem dv_len (hg : Gl X "len") (hm : X.mg "len" = none) (ha : DB X W a fa) (he : starEach (a :: []) X.env = (false, eval a X.env) :: starEach [] X.env := by rfl) (hpl : (backTo pos (starEach [] X.env)).any (·.1) = false := by rfl) :
    DV X W (.Call (.Name "len" p) [a] [] pos) (fun ρ => (fa ρ).bind fun y => R.of (oLen y)) := by
  refine dv_b1 call_len (fun F H v y d Q s r e h => ?_) hg hm boot_len ha (by decide) (by decide) he hpl
  unfold oLen at e
  split at e
  · cases e
    obtain ⟨p, vs, rfl, f, q⟩ := r.lst' s
    exact ⟨_, vs.length, rfl, .inl ⟨vs, SqL.of f, rfl⟩, by rw [q.len]; exact h _ _ _ (Grow.refl s) (.int _)⟩
  · cases e
    obtain ⟨p, vs, rfl, f, q⟩ := r.tup
    exact ⟨_, vs.length, rfl, .inr ⟨vs, (f.sq2 s), rfl⟩, by rw [q.len]; exact h _ _ _ (Grow.refl s) (.int _)⟩
  · rename_i ns
    cases e
    obtain ⟨p, rfl, f⟩ := r.scr
    exact ⟨_, _, rfl, .inl ⟨_, s.seq f, rfl⟩, by rw [List.length_map]; exact h _ _ _ (Grow.refl s) (.int _)⟩
  · split at e
    · rename_i hl
      cases e
      have ev := r.str
      subst ev
      exact ⟨_, _, rfl, ⟨by rw [sizeLine_eq]; exact hl, rfl⟩, h _ _ _ (Grow.refl s) (.int _)⟩
    · cases e
  · cases e
theorem RepK.len {K : KF} {F : Hp} : ∀ {es : List (List Key × V)} {kvs : List (List Key × D)}, RepK K F es kvs → es.length = kvs.length
  | _, _, .nil => rfl
  | _, _, .cons _ t => by rw [List.length_cons, List.length_cons, RepK.len t]
theorem dv_lenD (hg : Gl X "len") (hm : X.mg "len" = none) (ha : DB X W a fa) (he : starEach (a :: []) X.env = (false, eval a X.env) :: starEach [] X.env := by rfl) (hpl : (backTo pos (starEach [] X.env)).any (·.1) = false := by rfl) :
    DV X W (.Call (.Name "len" p) [a] [] pos) (fun ρ => (fa ρ).bind fun y => R.of (oLenD y)) := by
  refine dv_b1 call_len_dT (fun F H v y d Q s r e h => ?_) hg hm boot_len ha (by decide) (by decide) he hpl
  unfold oLenD at e
  split at e
  · cases e
    obtain ⟨p, vs, rfl, f, q⟩ := r.dct' s
    exact ⟨p, vs, rfl, f, by rw [q.len]; exact h _ _ _ (Grow.refl s) (.int _)⟩
  · cases e
theorem dv_int1 (hg : Gl X "int") (hm : X.mg "int" = none) (ha : DB X W a fa) (he : starEach (a :: []) X.env = (false, eval a X.env) :: starEach [] X.env := by rfl) (hpl : (backTo pos (starEach [] X.env)).any (·.1) = false := by rfl) :
    DV X W (.Call (.Name "int" p) [a] [] pos) (fun ρ => (fa ρ).bind fun y => R.of (oInt y)) := by
  refine dv_t1 call_int1 (fun F H v y d Q s r e h => ?_) hg hm (by decide +kernel) ha (by decide) (by decide) he hpl
  unfold oInt at e
  split at e
  · cases e
    have ev := r.int
    subst ev
    exact .inl ⟨_, rfl, h _ _ _ (Grow.refl s) (.int _)⟩
  · cases e
    have ev := r.bl
    subst ev
    exact .inr ⟨_, rfl, h _ _ _ (Grow.refl s) (.int _)⟩
  · cases e
theorem dv_tuple (hg : Gl X "tuple") (hm : X.mg "tuple" = none) (ha : DB X W a fa) (he : starEach (a :: []) X.env = (false, eval a X.env) :: starEach [] X.env := by rfl) (hpl : (backTo pos (starEach [] X.env)).any (·.1) = false := by rfl) :
    DV X W (.Call (.Name "tuple" p) [a] [] pos) (fun ρ => (fa ρ).bind fun y => R.of (oTuple y)) := by
  refine dv_t1 call_tuple_of (fun F H v y d Q s r e h => ?_) hg hm (by decide +kernel) ha (by decide) (by decide) he hpl
  unfold oTuple at e
  split at e
  · cases e
    obtain ⟨p, vs, rfl, f, q⟩ := r.lst' s
    exact ⟨p, vs, rfl, .inl ⟨SqL.of f, fun l hl => fin_new s h hl fun up => .tup (.of upd_same) (q.mono up)⟩⟩
  · cases e
    obtain ⟨p, vs, rfl, f, q⟩ := r.tup
    exact ⟨p, vs, rfl, .inr ⟨(f.sq2 s), h _ _ _ (Grow.refl s) (.tup f q)⟩⟩
  · cases e
theorem df_list (hg : Gl X "list") (hm : X.mg "list" = none) (ha : DB X W a fa) (he : starEach (a :: []) X.env = (false, eval a X.env) :: starEach [] X.env := by rfl) (hpl : (backTo pos (starEach [] X.env)).any (·.1) = false := by rfl) :
    DF X W (.Call (.Name "list" p) [a] [] pos) (fun ρ => (fa ρ).bind fun y => R.of (oList y)) := by
  refine df_t1 call_list_of (fun F H v y d Q s r e h => ?_) hg hm (by decide +kernel) ha (by decide) (by decide) he hpl
  unfold oList at e
  split at e
  · cases e
    obtain ⟨p, vs, rfl, f, q⟩ := r.lst' s
    exact ⟨p, vs, rfl, .inl (SqL.of f), fun l hl => fin_own s h hl q⟩
  · cases e
    obtain ⟨p, vs, rfl, f, q⟩ := r.tup
    exact ⟨p, vs, rfl, .inr ((f.sq2 s)), fun l hl => fin_own s h hl q⟩
  · cases e
theorem rgV_rep {K : KF} {F : Hp} (n : Int) : RepL K F (rgV 0 n) ((List.range n.toNat).map fun i => D.int (i : Nat)) := by
  have e1 : rgV 0 n = ((List.range n.toNat).map fun i => ((i : Nat) : Int)).map V.int := by
    unfold rgV
    rw [Int.sub_zero, List.map_map]
    refine List.map_congr_left fun i _ => ?_
    show V.int (0 + (i : Int)) = V.int (i : Int)
    rw [Int.zero_add]
  have e2 : ((List.range n.toNat).map fun i => D.int (i : Nat)) = ((List.range n.toNat).map fun i => ((i : Nat) : Int)).map D.int := by rw [List.map_map]; rfl
  rw [e1, e2]
  exact RepL.ofInts _
/-- list(range(n)) -/
theorem df_listRg {p2 pos2 : Pos} (hc : X.calm = true) (hg : Gl X "list") (hm : X.mg "list" = none) (hg2 : Gl X "range") (hm2 : X.mg "range" = none) (ha : DB X W a fa)
    (na : starEach [a] X.env = (false, eval a X.env) :: starEach [] X.env := by rfl) (ne : starEach [.Call (.Name "range" p2) [a] [] pos2] X.env = (false, eval (.Call (.Name "range" p2) [a] [] pos2) X.env) :: starEach [] X.env := by rfl) :
    DF X W (.Call (.Name "list" p) [.Call (.Name "range" p2) [a] [] pos2] [] pos) (fun ρ => (fa ρ).bind fun y => R.of (oRange y)) :=
  (pe_listRg hc hg hm (prg_1 hg2 hm2 ha na) ne).weak fun σ H Q ⟨F0, H0, ρ, F, z, h⟩ => post_bind z rF_early h fun F1 H1 v y z1 g1 r1 h => by
    obtain ⟨d, e, hF⟩ := post_of h
    unfold oRange at e
    split at e
    · split at e
      · rename_i n hn
        cases e
        have ev := r1.int
        subst ev
        refine ⟨n, rfl, ⟨by omega, by omega, by omega, by omega, by omega⟩, fun q hq => fin_own z1.sub hF hq (rgV_rep n)⟩
      · cases e
    · cases e
theorem insI_perm (x : Int) : ∀ l, (insI x l).Perm (x :: l)
  | [] => List.Perm.refl _
  | y :: r => by
    unfold insI
    split
    · exact List.Perm.refl _
    · exact ((insI_perm x r).cons y).trans (List.Perm.swap x y r)
theorem sortI_perm : ∀ l, (sortI l).Perm l
  | [] => List.Perm.refl _
  | x :: r => (insI_perm x (sortI r)).trans ((sortI_perm r).cons x)
theorem insI_sorted (x : Int) : ∀ l : List Int, l.Pairwise (· ≤ ·) → (insI x l).Pairwise (· ≤ ·)
  | [], _ => by simp [insI]
  | y :: r, h => by
    unfold insI
    split
    · rename_i hx
      refine List.pairwise_cons.mpr ⟨fun z hz => ?_, h⟩
      rcases List.mem_cons.mp hz with rfl | hz
      · exact hx
      · exact Int.le_trans hx ((List.pairwise_cons.mp h).1 z hz)
    · rename_i hx
      obtain ⟨h1, h2⟩ := List.pairwise_cons.mp h
      refine List.pairwise_cons.mpr ⟨fun z hz => ?_, insI_sorted x r h2⟩
      rcases List.mem_cons.mp ((insI_perm x r).mem_iff.mp hz) with rfl | hz
      · omega
      · exact h1 z hz
theorem sortI_sorted : ∀ l : List Int, (sortI l).Pairwise (· ≤ ·)
  | [] => .nil
  | x :: r => insI_sorted x _ (sortI_sorted r)
theorem sorted_uniq : ∀ {l m : List Int}, l.Perm m → l.Pairwise (· ≤ ·) → m.Pairwise (· ≤ ·) → l = m
  | [], m, h, _, _ => by rw [List.nil_perm.mp h]
  | a :: r, [], h, _, _ => by have := h.length_eq; simp at this
  | a :: r, b :: t, h, h1, h2 => by
    obtain ⟨p1, p2⟩ := List.pairwise_cons.mp h1
    obtain ⟨q1, q2⟩ := List.pairwise_cons.mp h2
    have e : a = b := by
      have m1 : a ∈ b :: t := h.mem_iff.mp List.mem_cons_self
      have m2 : b ∈ a :: r := h.mem_iff.mpr List.mem_cons_self
      rcases List.mem_cons.mp m1 with e | m1
      · exact e
      · rcases List.mem_cons.mp m2 with e | m2
        · exact e.symm
        · have := q1 a m1; have := p1 b m2; omega
    subst e
    rw [sorted_uniq (List.Perm.cons_inv h) p2 q2]
theorem df_sorted (hg : Gl X "sorted") (hm : X.mg "sorted" = none) (ha : DB X W a fa) (he : starEach (a :: []) X.env = (false, eval a X.env) :: starEach [] X.env := by rfl) (hpl : (backTo pos (starEach [] X.env)).any (·.1) = false := by rfl) :
    DF X W (.Call (.Name "sorted" p) [a] [] pos) (fun ρ => (fa ρ).bind fun y => R.of (oSorted y)) := by
  refine df_b1 cr_sorted (fun F H v y d Q s r e h => ?_) hg hm (by decide +kernel) ha (by decide) (by decide) he hpl
  unfold oSorted at e
  split at e
  · obtain ⟨ns, e1, e2⟩ := Option.bind_eq_some_iff.mp e
    split at e2
    · rename_i h64
      cases e2
      obtain ⟨p, vs, rfl, f, q⟩ := r.lst' s
      have ev := q.ints e1
      subst ev
      refine ⟨p, ns, rfl, SqL.of f, h64, fun ns' l hp hs hl => ?_⟩
      have e3 : ns' = sortI ns := sorted_uniq (hp.trans (sortI_perm ns).symm) hs (sortI_sorted ns)
      subst e3
      exact fin_own s h hl (RepL.ofInts _)
    · cases e2
  · cases e
theorem dv_all (hc : X.calm = true) (hg : Gl X "all") (hm : X.mg "all" = none) (ha : DB X W a fa) (he : starEach (a :: []) X.env = (false, eval a X.env) :: starEach [] X.env := by rfl) (hpl : (backTo pos (starEach [] X.env)).any (·.1) = false := by rfl) :
    DV X W (.Call (.Name "all" p) [a] [] pos) (fun ρ => (fa ρ).bind fun y => R.of (oAll y)) := by
  refine dv_b1 (cr_all hc) (fun F H v y d Q s r e h => ?_) hg hm (by decide +kernel) ha (by decide) (by decide) he hpl
  unfold oAll at e
  split at e
  · obtain ⟨ns, e1, e2⟩ := Option.map_eq_some_iff.mp e
    subst e2
    obtain ⟨p, vs, rfl, f, q⟩ := r.lst' s
    have ev := q.bls e1
    subst ev
    exact ⟨p, ns, rfl, SqL.of f, h _ _ _ (Grow.refl s) (.bl _)⟩
  · cases e

/-! ### isinstance -/
theorem tyX_of {K : KF} {F H : Hp} {v : V} {d : D} {n : String} (s : Same F H) (r : RepB K F H v d) (e : tyN d = some n) : TyX K H v (.type n) := by
  cases d <;> simp only [tyN] at e <;> first | (cases e; done) | (cases e)
  · have ev := r.non; subst ev; exact .base .non
  · have ev := r.bl; subst ev; exact .base (.bl _)
  · have ev := r.int; subst ev; exact .base (.int _)
  · have ev := r.str; subst ev; exact .base (.str _)
  · obtain ⟨p, vs, rfl, f, q⟩ := r.tup
    rcases f with f | ⟨_, o, its, n, h1, h2, _⟩
    · exact .base (.tup (s _ _ f))
    · exact .kTuple h1 h2
  · obtain ⟨p, vs, rfl, f, q⟩ := r.lst' s; exact .base (.lst f)
  · obtain ⟨p, vs, rfl, f, q⟩ := r.dct' s; exact .base (.dT f)
/-- isinstance(x, T), T a built-in type -/
theorem dv_isi {n : String} {p1 p2 : Pos} {xT : Str} (hg : Gl X "isinstance") (hm : X.mg "isinstance" = none) (ha : DB X W a fa) (hT : PE X (.Name xT p2) (tC (.ty n)))
    (he : starEach (a :: [.Name xT p2]) X.env = (false, eval a X.env) :: starEach [.Name xT p2] X.env := by rfl) (he2 : starEach [.Name xT p2] X.env = (false, eval (.Name xT p2) X.env) :: starEach [] X.env := by rfl)
    (hpl : (backTo pos (starEach [.Name xT p2] X.env)).any (·.1) = false := by rfl) :
    DV X W (.Call (.Name "isinstance" p1) [a, .Name xT p2] [] pos) (fun ρ => (fa ρ).bind fun y => R.of ((isB1 n y).map .bl)) :=
  (pe_callB call_isi hg hm (by decide +kernel) (pa_cons ha (pa_cons hT pa_nil he2) he) (by decide) (by decide) he hpl).weak fun σ H Q ⟨F0, H0, ρ, F, z, h⟩ => post_bind z rV_early h fun F1 H1 v y z1 g1 r1 h => by
    obtain ⟨d, e, hF⟩ := post_of h
    obtain ⟨k, e1, e2⟩ := Option.map_eq_some_iff.mp e
    subst e2
    unfold isB1 at e1
    obtain ⟨t, e3, e4⟩ := Option.bind_eq_some_iff.mp e1
    exact ⟨v, .ty n, .type t, .type n, k, rfl, .ty n, tyX_of z1.sub r1 e3, kit_ty e4, hF _ _ _ (Grow.refl z1.sub) (.bl _)⟩
theorem isBs_kit {K : KF} {d : D} {t : String} (ht : tyN d = some t) : ∀ {ns : List String} {k : Bool}, isBs ns d = some k → PySem.W.kitAny K (.type t) (ns.map Value.type) = some k
  | [], k, e => by cases e; exact kitAny_nil
  | n :: r, k, e => by
    unfold isBs at e
    obtain ⟨b, e1, e2⟩ := Option.bind_eq_some_iff.mp e
    unfold isB1 at e1
    rw [ht] at e1
    refine kitAny_cons (b := b) (kit_ty e1) (fun hb => ?_) fun hb => ?_
    · subst hb
      exact isBs_kit ht (by simpa using e2)
    · subst hb
      simpa using e2.symm
theorem clsV_all (ns : List String) : Paired ClsV (ns.map V.ty) (ns.map Value.type) := by
  induction ns with
  | nil => exact .nil
  | cons n r ih => exact .cons (.ty n) ih
/-- isinstance(x, (T1, T2)) -/
theorem dv_isi2 {n m : String} {k : Nat} {p1 p2 p3 p4 : Pos} {xT xU : Str} (hg : Gl X "isinstance") (hm : X.mg "isinstance" = none) (ha : DB X W a fa) (hT : PE X (.Name xT p2) (tC (.ty n))) (hU : PE X (.Name xU p3) (tC (.ty m)))
    (he : starEach (a :: [.Tuple [.Name xT p2, .Name xU p3] k p4]) X.env = (false, eval a X.env) :: starEach [.Tuple [.Name xT p2, .Name xU p3] k p4] X.env := by rfl)
    (he2 : starEach [.Tuple [.Name xT p2, .Name xU p3] k p4] X.env = (false, eval (.Tuple [.Name xT p2, .Name xU p3] k p4) X.env) :: starEach [] X.env := by rfl)
    (he3 : starEach [.Name xT p2, .Name xU p3] X.env = (false, eval (.Name xT p2) X.env) :: starEach [.Name xU p3] X.env := by rfl) (he4 : starEach [.Name xU p3] X.env = (false, eval (.Name xU p3) X.env) :: starEach [] X.env := by rfl)
    (hpl : (backTo pos (starEach [.Tuple [.Name xT p2, .Name xU p3] k p4] X.env)).any (·.1) = false := by rfl) :
    DV X W (.Call (.Name "isinstance" p1) [a, .Tuple [.Name xT p2, .Name xU p3] k p4] [] pos) (fun ρ => (fa ρ).bind fun y => R.of ((isBs [n, m] y).map .bl)) :=
  (pe_callB call_isiT hg hm (by decide +kernel) (pa_cons ha (pa_cons (pe_tup (pa_cons hT (pa_cons hU pa_nil he4) he3)) pa_nil he2) he) (by decide) (by decide) he hpl).weak fun σ H Q ⟨F0, H0, ρ, F, z, h⟩ => post_bind z rV_early h fun F1 H1 v y z1 g1 r1 h => by
    obtain ⟨d, e, hF⟩ := post_of h
    obtain ⟨k, e1, e2⟩ := Option.map_eq_some_iff.mp e
    subst e2
    refine ⟨by rw [sizeLine_eq]; show 2 ≤ 16777216; decide, fun q hq => ?_⟩
    have g2 : Grow F1 H1 F1 (upd H1 q (.tup [.ty n, .ty m])) := Grow.own z1.sub hq
    cases ht : tyN y with
    | none =>
      unfold isBs isB1 at e1
      rw [ht] at e1
      cases e1
    | some t =>
      exact ⟨v, q, _, .type t, [n, m].map Value.type, k, rfl, upd_same, clsV_all [n, m], tyX_of g2.fh (r1.up g2) ht, isBs_kit ht e1, hF _ _ _ g2 (.bl _)⟩

/-! ### calls of one's own functions -/
inductive Ret where
  | val (d : D)
  | frl (xs : List D)
def Ret.v : Ret → D
  | .val d => d
  | .frl xs => .lst xs
def Ret.f : Ret → Option (List D)
  | .frl xs => some xs
  | .val _ => none
def RetPost (K : KF) (mg : Str → Option Value) (F H : Hp) (Q : VK) (E : XK) : R Ret → Prop
  | .stuck => False
  | .err c => ∀ F' H' C, Grow F H F' H' → mg c = some (.ref C) → E (.ref C) none H'
  | .ok (.val d) => ∀ v F' H', Grow F H F' H' → Rep K F' v d → Q v H'
  | .ok (.frl xs) => ∀ v F' H', Grow F H F' H' → rF K F H F' H' v xs → Q v H'
/-- the promise of a def: data in, data out -/
def spD (K : KF) (mg : Str → Option Value) (n : Nat) (m : List D → R Ret) : Sp := fun vs H Q E => vs.length = n ∧ ∃ F ds, Same F H ∧ RepL K F vs ds ∧ RetPost K mg F H Q E (m ds)
/-- the wish of exceptions, told by classes' names -/
abbrev wish (mg : Str → Option Value) (W' : WX) : Wish := fun c σ H => ∀ C, mg c = some (.ref C) → W' (.ref C) none σ H
def AL (f : Env → R (List D)) (n : Nat) : Prop := ∀ ρ ds, f ρ = .ok ds → ds.length = n
theorem al_nil : AL (fun _ => .ok []) 0 := fun _ _ h => by cases h; rfl
theorem al_cons {fa : Env → R D} {fs : Env → R (List D)} {n : Nat} (h : AL fs n) : AL (fun ρ => (fa ρ).bind fun x => (fs ρ).bind fun xs => .ok (x :: xs)) (n + 1) := fun ρ ds e => by
  have e : (fa ρ).bind (fun x => (fs ρ).bind fun xs => .ok (x :: xs)) = .ok ds := e
  cases q : fa ρ with
  | stuck => rw [q] at e; cases e
  | err c => rw [q] at e; cases e
  | ok x =>
    rw [q] at e
    cases q2 : fs ρ with
    | stuck => rw [q2] at e; cases e
    | err c => rw [q2] at e; cases e
    | ok xs =>
      rw [q2] at e
      cases e
      rw [List.length_cons, h ρ xs q2]
variable {W' : WX} {es : List Expr} {fs : Env → R (List D)} {m : List D → R Ret} {k n : Nat} {f : Addr} {fd : FuncData} {ps : List Str}
theorem dv_call (F : FnOk X.prog X.w X.K X.mg X.base (L2.CX X.prog X.w) k f fd ps (spD X.K X.mg n m)) (hr : Room k X.A) (tk : Takes X W') (hg : Gl X x) (hm : X.mg x = some (.ref f)) (hk : PySem.W.keepIn X.K (.ref f) = true) (hb : Binds X.K fd ps [])
    (ha : DA X (wish X.mg W') (e :: es) fs) (hfs : AL fs n) (hdb : (x == ("__debug__" : Str)) = false := by decide) (he : starEach (e :: es) X.env = (false, eval e X.env) :: starEach es X.env := by rfl) (hpl : (backTo pos (starEach es X.env)).any (·.1) = false := by rfl) :
    DV X (wish X.mg W') (.Call (.Name x p) (e :: es) [] pos) (fun ρ => (fs ρ).bind fun ds => (m ds).map Ret.v) :=
  (pe_callS F hr hg hm hk hb (fun σ => passAt tk σ) ha hdb he hpl).weak fun σ H Q ⟨F0, H0, ρ, F, z, h⟩ => by
    refine ⟨F0, H0, ρ, F, z, ?_⟩
    have h : Post (wish X.mg W') (rV X.K) F H σ ((fs ρ).bind fun ds => (m ds).map Ret.v) Q := h
    cases q : fs ρ with
    | stuck => rw [q] at h; exact h
    | err c => rw [q] at h; exact h
    | ok ds =>
      rw [q] at h
      intro vs F1 H1 g1 r1
      have h2 : Post (wish X.mg W') (rV X.K) F1 H1 σ ((m ds).map Ret.v) Q := Post.later rV_early g1 h
      refine ⟨by rw [RepL.len r1]; exact hfs ρ ds q, F1, ds, g1.fh, r1, ?_⟩
      cases q2 : m ds with
      | stuck => rw [q2] at h2; exact h2
      | err c => rw [q2] at h2; exact fun F' H' C g hC => h2 F' H' g C hC
      | ok r =>
        rw [q2] at h2
        cases r with
        | val d => exact fun v F' H' g rv => h2 v F' H' g rv
        | frl xs =>
          intro v F' H' g ⟨a, vs, e1, h0, hf, hh, rl⟩
          subst e1
          have up : Same F' (upd F' a (.lst vs)) := Same.add hf
          refine h2 (.ref a) (upd F' a (.lst vs)) H' ⟨g.hh, g.ff.trans up, fun b o e => ?_, fun b hb e => ?_⟩ (.lst upd_same (rl.mono up))
          · by_cases hb : b = a
            · subst hb; rw [upd_same] at e; cases e; exact hh
            · rw [upd_ne hb] at e; exact g.fh b o e
          · rw [upd_ne (fun q => hb (by rw [q]; exact h0))]; exact g.nn b hb e
theorem df_call (F : FnOk X.prog X.w X.K X.mg X.base (L2.CX X.prog X.w) k f fd ps (spD X.K X.mg n m)) (hr : Room k X.A) (tk : Takes X W') (hg : Gl X x) (hm : X.mg x = some (.ref f)) (hk : PySem.W.keepIn X.K (.ref f) = true) (hb : Binds X.K fd ps [])
    (ha : DA X (wish X.mg W') (e :: es) fs) (hfs : AL fs n) (hdb : (x == ("__debug__" : Str)) = false := by decide) (he : starEach (e :: es) X.env = (false, eval e X.env) :: starEach es X.env := by rfl) (hpl : (backTo pos (starEach es X.env)).any (·.1) = false := by rfl) :
    DF X (wish X.mg W') (.Call (.Name x p) (e :: es) [] pos) (fun ρ => (fs ρ).bind fun ds => (m ds).bind fun r => R.of r.f) :=
  (pe_callS F hr hg hm hk hb (fun σ => passAt tk σ) ha hdb he hpl).weak fun σ H Q ⟨F0, H0, ρ, F, z, h⟩ => by
    refine ⟨F0, H0, ρ, F, z, ?_⟩
    have h : Post (wish X.mg W') (rF X.K) F H σ ((fs ρ).bind fun ds => (m ds).bind fun r => R.of r.f) Q := h
    cases q : fs ρ with
    | stuck => rw [q] at h; exact h
    | err c => rw [q] at h; exact h
    | ok ds =>
      rw [q] at h
      intro vs F1 H1 g1 r1
      have h2 : Post (wish X.mg W') (rF X.K) F1 H1 σ ((m ds).bind fun r => R.of r.f) Q := Post.later rF_early g1 h
      refine ⟨by rw [RepL.len r1]; exact hfs ρ ds q, F1, ds, g1.fh, r1, ?_⟩
      cases q2 : m ds with
      | stuck => rw [q2] at h2; exact h2
      | err c => rw [q2] at h2; exact fun F' H' C g hC => h2 F' H' g C hC
      | ok r =>
        rw [q2] at h2
        cases r with
        | val d => exact h2.elim
        | frl xs => exact fun v F' H' g rv => h2 v F' H' g rv
end
end DL
/-! DL5: what is walked; targets; statements; loops. -/
namespace DL
open PySem PySem.Spec PyProof.Rows L2

/-- a walk over items that are data -/
def ItOk (K : KF) (J : It) (F1 : Hp) (items : List D) : Prop := ∃ (G : Hp → Prop) (Y : Nat → Hp → V → Hp → Prop), Walk J items.length G Y ∧ (∀ F H, Same F1 F → Same F H → G H) ∧
  ∀ i F H x H', Same F1 F → Same F H → i < items.length → Y i H x H' → ∃ d F', items[i]? = some d ∧ Grow F H F' H' ∧ Rep K F' x d
def rI (K : KF) : Rel It (List D) := fun _ _ F' _ J items => ItOk K J F' items
theorem rI_early {K : KF} : (rI K).Early := fun _ _ _ _ _ _ _ _ _ h => h
abbrev DI (X : Cx) (W : Wish) (tg e : Expr) (f : Env → R (List D)) : Prop := PI X tg e (tG X.K W (rI X.K) f)

def chars (z : Str) : List D := z.cps.toList.map fun c => .str ⟨#[c]⟩
def oItems : D → Option (List D)
  | .lst xs => some xs
  | .tup xs => some xs
  | .scr ns => some (ns.map .int)
  | .str z => some (chars z)
  | _ => none
theorem sqT_up {K : KF} {F H : Hp} {a : Addr} {vs : List V} (s : Same F H) (h : TupAt K F a vs) : SqT K H a vs := h.sq2 s
theorem itok_list {K : KF} {F : Hp} {a : Addr} {vs : List V} {xs : List D} (hF : SqL K F a vs) (q : RepL K F vs xs) : ItOk K (Itl K a) F xs :=
  ⟨_, _, by rw [← q.len]; exact walk_list (xs := vs), fun F' H s1 s2 => s2.seq (s1.seq hF), fun i F' H x H' s1 s2 hi y => by
    obtain ⟨rfl, e⟩ := y
    obtain ⟨d, e1, r⟩ := q.getV e
    exact ⟨d, F', e1, Grow.refl s2, r.mono s1⟩⟩
theorem itok_tup {K : KF} {F : Hp} {a : Addr} {vs : List V} {xs : List D} (hF : TupAt K F a vs) (q : RepL K F vs xs) : ItOk K (Itt K a) F xs :=
  ⟨_, _, by rw [← q.len]; exact walk_tup (xs := vs), fun F' H s1 s2 => hF.sq2 (s1.trans s2), fun i F' H x H' s1 s2 hi y => by
    obtain ⟨rfl, e⟩ := y
    obtain ⟨d, e1, r⟩ := q.getV e
    exact ⟨d, F', e1, Grow.refl s2, r.mono s1⟩⟩
theorem itok_str {K : KF} {F : Hp} {z : Str} : ItOk K (Its z) F (chars z) :=
  ⟨_, _, by have e : (chars z).length = z.cps.size := by simp [chars]
            rw [e]; exact walk_str, fun F' H s1 s2 => True.intro, fun i F' H x H' s1 s2 hi y => by
    obtain ⟨rfl, c, e, ex⟩ := y
    subst ex
    refine ⟨.str ⟨#[c]⟩, F', ?_, Grow.refl s2, .str _⟩
    unfold chars
    rw [List.getElem?_map, Array.getElem?_toList, e]; rfl⟩
theorem itok_range {K : KF} {F : Hp} {lo : Int} {n : Nat} : ItOk K (Itr lo n) F ((List.range n).map fun i => .int (lo + (i : Nat))) :=
  ⟨_, _, by have e : ((List.range n).map fun i => D.int (lo + (i : Nat))).length = n := by simp
            rw [e]; exact walk_range, fun F' H s1 s2 => True.intro, fun i F' H x H' s1 s2 hi y => by
    obtain ⟨rfl, ex⟩ := y
    subst ex
    refine ⟨.int (lo + i), F', ?_, Grow.refl s2, .int _⟩
    have hn : i < n := by simpa using hi
    simp [hn]⟩
def oRg1 : D → Option (List D)
  | .int n => if -(2 ^ 62) ≤ n ∧ n < 2 ^ 62 then some ((List.range n.toNat).map fun i => .int (0 + (i : Nat))) else none
  | _ => none
def oRg2 : D → D → Option (List D)
  | .int a, .int b => if -(2 ^ 62) ≤ a ∧ a < 2 ^ 62 ∧ -(2 ^ 62) ≤ b ∧ b < 2 ^ 62 then some ((List.range (b - a).toNat).map fun i => .int (a + (i : Nat))) else none
  | _, _ => none
section
variable {X : Cx} {W : Wish} {a b c e tg : Expr} {fa fb fc : Env → R D} {pos p : Pos} {x : Str}
/-- for .. in a list, a tuple, a text (whatever of these it is) -/
theorem di_seq (ha : DV X W a fa) : DI X W tg a (fun ρ => (fa ρ).bind fun y => R.of (oItems y)) := by
  refine ⟨fun pins s σ H Rr I h => ?_⟩
  obtain ⟨F0, H0, ρ, F, z, h⟩ := h
  have h : Post W (rI X.K) F H σ ((fa ρ).bind fun y => R.of (oItems y)) Rr := h
  cases q : fa ρ with
  | stuck => rw [q] at h; exact h.elim
  | err c =>
    refine (pi_list ha).run pins s σ H Rr I ⟨F0, H0, ρ, F, z, ?_⟩
    rw [q] at h ⊢
    exact h
  | ok y =>
    rw [q] at h
    obtain ⟨items, e, hF⟩ := post_of (show Post W (rI X.K) F H σ (R.of (oItems y)) Rr from h)
    unfold oItems at e
    split at e
    · cases e
      refine (pi_list ha).run pins s σ H Rr I ⟨F0, H0, ρ, F, z, ?_⟩
      rw [q]
      intro v F' H' g r
      cases r with
      | lst f r => exact ⟨_, rfl, ⟨_, SqL.of (g.fh _ _ f)⟩, hF _ _ _ g (itok_list (SqL.of f) r)⟩
    · cases e
      refine (pi_tup ha).run pins s σ H Rr I ⟨F0, H0, ρ, F, z, ?_⟩
      rw [q]
      intro v F' H' g r
      cases r with
      | tup f r => exact ⟨_, rfl, ⟨_, f.sq2 g.fh⟩, hF _ _ _ g (itok_tup f r)⟩
    · cases e
      refine (pi_list ha).run pins s σ H Rr I ⟨F0, H0, ρ, F, z, ?_⟩
      rw [q]
      intro v F' H' g r
      cases r with
      | scr f => exact ⟨_, rfl, ⟨_, g.fh.seq f⟩, hF _ _ _ g (itok_list f (RepL.ofInts _))⟩
    · cases e
      refine (pi_str ha).run pins s σ H Rr I ⟨F0, H0, ρ, F, z, ?_⟩
      rw [q]
      intro v F' H' g r
      cases r with
      | str x => exact ⟨_, rfl, hF _ _ _ g itok_str⟩
    · cases e
theorem di_range1 (hg : Gl X "range") (hm : X.mg "range" = none) (ha : DB X W a fa) (h1 : starEach (a :: []) X.env = (false, eval a X.env) :: starEach [] X.env := by rfl) (hs : starEach [a] X.env = [(false, eval a X.env)] := by rfl) :
    DI X W tg (.Call (.Name "range" p) [a] [] pos) (fun ρ => (fa ρ).bind fun y => R.of (oRg1 y)) :=
  (pi_range1 hg hm (pa_cons ha pa_nil h1) hs).weak fun σ H Q ⟨F0, H0, ρ, F, z, h⟩ => post_bind z rI_early h fun F1 H1 v y z1 g1 r1 h => by
    obtain ⟨d, e, hF⟩ := post_of h
    unfold oRg1 at e
    split at e
    · split at e
      · rename_i n hn
        cases e
        have ev := r1.int
        subst ev
        exact ⟨n, rfl, hn.1, hn.2, hF _ _ _ (Grow.refl z1.sub) itok_range⟩
      · cases e
    · cases e
theorem di_range2 (hg : Gl X "range") (hm : X.mg "range" = none) (ha : DB X W a fa) (hb : DB X W b fb) (h1 : starEach (a :: [b]) X.env = (false, eval a X.env) :: starEach [b] X.env := by rfl) (h2 : starEach (b :: []) X.env = (false, eval b X.env) :: starEach [] X.env := by rfl)
    (hs : starEach [a, b] X.env = [(false, eval a X.env), (false, eval b X.env)] := by rfl) (hs2 : starEach [b] X.env = [(false, eval b X.env)] := by rfl) :
    DI X W tg (.Call (.Name "range" p) [a, b] [] pos) (fun ρ => (fa ρ).bind fun x => (fb ρ).bind fun y => R.of (oRg2 x y)) :=
  (pi_range2 hg hm (pa_cons ha (pa_cons hb pa_nil h2) h1) hs hs2).weak fun σ H Q ⟨F0, H0, ρ, F, z, h⟩ => post_bind z rI_early h fun F1 H1 v y z1 g1 r1 h => post_bind z1 rI_early h fun F2 H2 u w z2 g2 r2 h => by
    obtain ⟨d, e, hF⟩ := post_of h
    unfold oRg2 at e
    split at e
    · split at e
      · rename_i hn
        cases e
        have ev := (r1.up g2).int
        subst ev
        have ev2 := r2.int
        subst ev2
        exact ⟨_, _, rfl, hn, hF _ _ _ (Grow.refl z2.sub) itok_range⟩
      · cases e
    · cases e

/-! unpacking a list or a tuple -/
section
variable {prog : Program} {w : World} {A : Around} {E : Value → Shared → Prop} {s : Shared}
theorem draw_list {it t : Addr} {items : Array Value} (hne : t ≠ it) : ∀ (n i : Nat) (s : Shared) (Q : List Value → Shared → Prop), s.heap.IsListIter it t i → s.heap.IsList t items → i + n ≤ items.size →
    (∀ h', h'.IsListIter it t (i + n) → Heap.SameBut it s.heap h' → Q ((items.toList.drop i).take n) { s with heap := h' }) → wpAny (model prog w) A (draw (.ref it) n) Q E s
  | 0, i, s, Q, hit, _, _, hQ => by
    show wpAny _ _ (pure []) Q E s
    exact wpAny_pure (by simpa using hQ s.heap hit (Heap.SameBut.refl ..))
  | n + 1, i, s, Q, hit, ht, hle, hQ => by
    have hlt : i < items.size := by omega
    show wpAny _ _ (pyNext (.ref it) >>= _) Q E s
    refine wpAny_bind (wpAny_pyNext_list_item hit ht (x := items[i]) (by simp [hlt]) fun h₁ hit₁ hs₁ => ?_)
    refine wpAny_bind (wpAny_holding (draw_list hne n (i + 1) _ _ hit₁ (ht.extBut hs₁.extBut hne) (by omega) fun h₂ hit₂ hs₂ => wpAny_pure ?_))
    have hd : items.toList.drop i = items[i] :: items.toList.drop (i + 1) := by simp [List.drop_eq_getElem_cons, hlt]
    have := hQ h₂ (by rw [show i + (n + 1) = i + 1 + n by omega]; exact hit₂) (hs₁.trans hs₂)
    rw [hd, List.take_succ_cons] at this
    exact this
theorem unpackItems_list {t : Addr} {items : Array Value} {Q : List Value → Shared → Prop} (hh : A.handled = none) (ht : s.heap.IsList t items)
    (hQ : ∀ h', Heap.ExtBut s.heap.objs.size s.heap h' → Q items.toList { s with heap := h' }) : wpAny (model prog w) A (unpackItems (.ref t) items.size none) Q E s := by
  have hlt : t ≠ s.heap.objs.size := by obtain ⟨o, ho, _⟩ := ht; exact Nat.ne_of_lt (Heap.lt_size ho)
  unfold unpackItems
  refine wpAny_bind ?_
  · unfold notIterableAtAll
    refine wpAny_bind (wpAny_specialOf ht.typeIs slot_list_iter.lookup ?_)
    refine wpAny_pure ?_
    simp only [Bool.false_eq_true, if_false]
    refine wpAny_bind (wpAny_holding (wpAny_pyIter_list ht ?_))
    refine wpAny_bind (wpAny_holding (draw_list hlt items.size 0 _ _ ⟨_, Heap.get?_push_size _ rfl, rfl, rfl⟩ (ht.push _) (by omega) fun h₁ hit₁ hs₁ => ?_))
    have hall : List.take items.size (List.drop 0 items.toList) = items.toList := by
      rw [List.drop_zero]; exact List.take_of_length_le (by simp)
    rw [hall]
    rw [if_neg (by simp)]
    have ht₁ : h₁.IsList t items := (ht.push _).extBut hs₁.extBut hlt
    refine wpAny_bind (wpAny_holding (wpAny_pyNext_list_end hh hit₁ ht₁ (by simp) fun h₂ he₂ => ?_))
    simp only [Option.isSome_none, Bool.false_eq_true, if_false]
    refine wpAny_pure (hQ h₂ fun b o hb e => he₂ b o hb (hs₁.extBut b o hb (Heap.get?_push_of_some _ e)))
theorem assign_Tuple_list {env : PySem.Env} {elts : List Expr} {x1} {pos : Pos} {t : Addr} {items : Array Value} {Q : Unit → Shared → Prop} (hh : A.handled = none) (ht : s.heap.IsList t items)
    (hn : (assignEach elts env).length = items.size) (hstar : (assignEach elts env).findIdx? (·.1) = none)
    (h : ∀ h', Heap.ExtBut s.heap.objs.size s.heap h' → wpAny (model prog w) A (assignInOrder ((assignEach elts env).map (·.2)) items.toList) Q E { s with heap := h' }) :
    wpAny (model prog w) A (assign (.Tuple elts x1 pos) env (.ref t)) Q E s := by
  rw [assign_Tuple]
  refine wpAny_bind (wpAny_standAt ?_)
  unfold unpack
  rw [hn, hstar]
  exact wpAny_bind (wpAny_holding (unpackItems_list hh ht h))
end
/-- (a, b, ..) = a list or a tuple of that length -/
def gRow (K : KF) (n : Nat) (t : TGs) : TG := fun v σ H Q => ∃ a xs, v = .ref a ∧ (SqT K H a xs ∨ SqL K H a xs) ∧ xs.length = n ∧ t xs σ H Q
theorem pg_row {X : Cx} {pos : Pos} {es : List Expr} {k : Nat} {t : TGs} {n : Nat} (hc : X.calm = true) (h : PGs X es t)
    (hn : (assignEach es X.env).length = n := by rfl) (hst : (assignEach es X.env).findIdx? (·.1) = none := by rfl) : PG X (.Tuple es k pos) (gRow X.K n t) := by
  refine ⟨fun pins s σ H v u Q I r hw => ?_⟩
  obtain ⟨a, xs, e1, hq | hq, hl, hw⟩ := hw
  · exact (pg_tup hc h hn hst).run pins s σ H v u Q I r ⟨a, xs, e1, hq, hl, hw⟩
  subst e1
  cases r
  obtain ⟨its, rv, ht, hz⟩ := I.list hq
  refine assign_Tuple_list (I.ok.hd hc) ht.isList (by simp [hn, ← hl, rv.length]) hst fun h' hx => ?_
  have I1 : Inv X pins σ H { s with heap := h' } := I.kept (t' := s.toks) fun b o e => hx b o (Nat.ne_of_lt (Heap.lt_size e)) e
  exact h.run pins _ σ H xs _ Q I1 (by simpa using rv) hw
def rowOf : D → Option (List D)
  | .tup xs => some xs
  | .lst xs => some xs
  | _ => none
@[simp] theorem rowOf_tup (xs : List D) : rowOf (.tup xs) = some xs := rfl
@[simp] theorem rowOf_lst (xs : List D) : rowOf (.lst xs) = some xs := rfl
/-! ### targets -/
/-- the store of data by a target -/
def rG (K : KF) (F0 H0 : Hp) : Env → L2.St → Hp → Hp → Prop := fun ρ σ F H => SL K F0 H0 ρ σ F H
def Else (is : List Nat) (σ σ' : L2.St) : Prop := σ'.length = σ.length ∧ ∀ j, j ∉ is → σ'[j]? = σ[j]?
def tT (K : KF) (is : List Nat) (g : D → Env → Option Env) : TG := fun v σ H Q => ∃ F0 H0 ρ F d ρ', SL K F0 H0 ρ σ F H ∧ Rep K F v d ∧ g d ρ = some ρ' ∧ ∀ σ' F' H', Grow F H F' H' → SL K F0 H0 ρ' σ' F' H' → Else is σ σ' → Q σ' H'
def tTs (K : KF) (is : List Nat) (g : List D → Env → Option Env) : TGs := fun vs σ H Q => ∃ F0 H0 ρ F ds ρ', SL K F0 H0 ρ σ F H ∧ RepL K F vs ds ∧ g ds ρ = some ρ' ∧ ∀ σ' F' H', Grow F H F' H' → SL K F0 H0 ρ' σ' F' H' → Else is σ σ' → Q σ' H'
abbrev DG (X : Cx) (tg : Expr) (is : List Nat) (g : D → Env → Option Env) : Prop := PG X tg (tT X.K is g)
abbrev DGs (X : Cx) (ts : List Expr) (is : List Nat) (g : List D → Env → Option Env) : Prop := PGs X ts (tTs X.K is g)
theorem pgWeak {t t' : TG} (h : PG X tg t) (w : ∀ v σ H Q, t' v σ H Q → t v σ H Q) : PG X tg t' := ⟨fun pins s σ H v u Q I r q => h.run pins s σ H v u Q I r (w v σ H Q q)⟩
theorem pgsWeak {ts : List Expr} {t t' : TGs} (h : PGs X ts t) (w : ∀ v σ H Q, t' v σ H Q → t v σ H Q) : PGs X ts t' := ⟨fun pins s σ H v u Q I r q => h.run pins s σ H v u Q I r (w v σ H Q q)⟩
def setD (i : Nat) : D → Env → Option Env := fun d ρ => some (ρ.set i (some (.d d)))
theorem SL.setS {K : KF} {F0 H0 F H : Hp} {ρ : Env} {σ : L2.St} (z : SL K F0 H0 ρ σ F H) (i : Nat) {v : V} {s : S} (r : SlotOk K H0 F H s v)
    (ap : s.own = true → ∀ (j : Nat) (t : S) (a : Addr), j ≠ i → ρ[j]? = some (some t) → t.own = true → v = .ref a → σ[j]? ≠ some (some (.ref a))) : SL K F0 H0 (ρ.set i (some s)) (σ.set i (some v)) F H := by
  by_cases hi : i < ρ.length
  · have hi2 : i < σ.length := by rw [z.len]; exact hi
    refine ⟨z.grow, by simp [z.len], fun j t e => ?_, fun j k t u a hjk e1 e2 o1 o2 f1 f2 => ?_⟩
    · by_cases hj : i = j
      · subst hj
        rw [List.getElem?_set_self hi] at e
        cases e
        exact ⟨v, List.getElem?_set_self hi2, r⟩
      · rw [List.getElem?_set_ne hj] at e ⊢
        exact z.slot j t e
    · by_cases hj : i = j
      · subst hj
        rw [List.getElem?_set_ne hjk] at e2 f2
        rw [List.getElem?_set_self hi] at e1
        rw [List.getElem?_set_self hi2] at f1
        cases e1
        exact ap o1 k u a (Ne.symm hjk) e2 o2 (by simpa using f1) f2
      · rw [List.getElem?_set_ne hj] at e1 f1
        by_cases hk : i = k
        · subst hk
          rw [List.getElem?_set_self hi] at e2
          rw [List.getElem?_set_self hi2] at f2
          cases e2
          exact ap o2 j t a (Ne.symm hj) e1 o1 (by simpa using f2) f1
        · rw [List.getElem?_set_ne hk] at e2 f2
          exact z.apart j k t u a hjk e1 e2 o1 o2 f1 f2
  · have e1 : ρ.set i (some s) = ρ := List.set_eq_of_length_le (by omega)
    have e2 : σ.set i (some v) = σ := List.set_eq_of_length_le (by rw [z.len]; omega)
    rw [e1, e2]
    exact z
theorem SL.setD {K : KF} {F0 H0 F H : Hp} {ρ : Env} {σ : L2.St} (z : SL K F0 H0 ρ σ F H) (i : Nat) {v : V} {d : D} (r : Rep K F v d) : SL K F0 H0 (ρ.set i (some (.d d))) (σ.set i (some v)) F H := z.setS i (s := .d d) r fun h => by cases h
theorem dg_name {i : Nat} (h : PG X tg (gName i)) : DG X tg [i] (setD i) := pgWeak h fun v σ H Q ⟨F0, H0, ρ, F, d, ρ', z, r, e, k⟩ => by
  cases e
  exact k _ _ _ (Grow.refl z.sub) (z.setD i r) ⟨List.length_set, fun j hj => List.getElem?_set_ne (fun e => hj (by simp [e]))⟩
theorem dgs_nil : DGs X [] [] (fun ds ρ => match ds with | [] => some ρ | _ => none) := pgsWeak pgs_nil fun vs σ H Q ⟨F0, H0, ρ, F, ds, ρ', z, r, e, k⟩ => by
  cases r with
  | nil => cases e; exact ⟨rfl, k _ _ _ (Grow.refl z.sub) z ⟨rfl, fun _ _ => rfl⟩⟩
  | cons _ _ => cases e
variable {ts : List Expr} {is js : List Nat} {g1 : D → Env → Option Env} {gs : List D → Env → Option Env}
theorem dgs_cons (h1 : DG X tg is g1) (h2 : DGs X ts js gs) (hs : (assignEach (tg :: ts) X.env).map (·.2) = assign tg X.env :: (assignEach ts X.env).map (·.2) := by rfl) :
    DGs X (tg :: ts) (is ++ js) (fun ds ρ => match ds with | [] => none | d :: r => (g1 d ρ).bind (gs r)) := pgsWeak (pgs_cons h1 h2 hs) fun vs σ H Q ⟨F0, H0, ρ, F, ds, ρ', z, r, e, k⟩ => by
  cases r with
  | nil => cases e
  | cons r1 r2 =>
    obtain ⟨ρ1, e1, e2⟩ := Option.bind_eq_some_iff.mp e
    exact ⟨_, _, rfl, F0, H0, ρ, F, _, ρ1, z, r1, e1, fun σ1 F1 H1 gr z1 el1 => ⟨F0, H0, ρ1, F1, _, ρ', z1, r2.mono gr.ff, e2, fun σ2 F2 H2 gr2 z2 el2 => k σ2 F2 H2 (gr.trans gr2) z2 ⟨el2.1.trans el1.1, fun j hj => (el2.2 j fun h => hj (List.mem_append_right _ h)).trans (el1.2 j fun h => hj (List.mem_append_left _ h))⟩⟩⟩
theorem dg_tup {k n : Nat} (hc : X.calm = true) (h : DGs X ts is gs) (hn : (assignEach ts X.env).length = n := by rfl) (hst : (assignEach ts X.env).findIdx? (·.1) = none := by rfl) :
    DG X (.Tuple ts k pos) is (fun d ρ => (rowOf d).bind fun xs => if xs.length = n then gs xs ρ else none) := pgWeak (pg_row hc h hn hst) fun v σ H Q ⟨F0, H0, ρ, F, d, ρ', z, r, e, k⟩ => by
  cases r with
  | @tup a vs xs f q =>
    have e : (if xs.length = n then gs xs ρ else none) = some ρ' := e
    split at e
    · rename_i hl
      exact ⟨_, _, rfl, .inl (f.sq2 z.sub), by rw [q.len]; exact hl, F0, H0, ρ, F, xs, ρ', z, q, e, k⟩
    · cases e
  | @lst a vs xs f q =>
    have e : (if xs.length = n then gs xs ρ else none) = some ρ' := e
    split at e
    · rename_i hl
      exact ⟨_, _, rfl, .inr (SqL.of (z.sub _ _ f)), by rw [q.len]; exact hl, F0, H0, ρ, F, xs, ρ', z, q, e, k⟩
    · cases e
  | _ => cases e
end
end DL
/-! DL6: comprehensions. -/
namespace DL
open PySem PySem.Spec PyProof.Rows L2

def wipeE (ρ : Env) : List Nat → Env
  | [] => ρ
  | v :: vs => (wipeE ρ vs).set v none
def lcAll (item : D → Option (Option D)) : List D → Option (List D)
  | [] => some []
  | d :: ds => (item d).bind fun o => (lcAll item ds).map fun ys => match o with
    | some y => y :: ys
    | none => ys
def calm {α : Type} : R α → Option α
  | .ok a => some a
  | _ => none
/-- one turn of a comprehension: what the item gives, or that it is left out -/
def lcItem (vs : List Nat) (gt : D → Env → Option Env) (tt : Env → R Bool) (fe : Env → R D) (ρ : Env) (d : D) : Option (Option D) :=
  (gt d (wipeE ρ vs)).bind fun ρ1 => (calm (tt ρ1)).bind fun k => if k = true then (calm (fe ρ1)).map some else some none
def few (items : List D) : Prop := items.length ≤ 16777216
instance (items : List D) : Decidable (few items) := inferInstanceAs (Decidable (items.length ≤ 16777216))
def lcF (vs : List Nat) (gt : D → Env → Option Env) (tt : Env → R Bool) (fe : Env → R D) (ρ : Env) (items : List D) : Option (List D) :=
  if few items then lcAll (lcItem vs gt tt fe ρ) items else none

section
variable {K : KF} {F0 H0 F H : Hp} {ρ : Env} {σ : L2.St}
theorem wipe_at (σ : L2.St) (j : Nat) : ∀ vs : List Nat, (wipe σ vs)[j]? = if j ∈ vs then (σ[j]?).map fun _ => none else σ[j]?
  | [] => by simp [wipe]
  | v :: vs => by
    unfold wipe
    by_cases h : v = j
    · subst h
      rw [List.getElem?_set]
      simp only [if_pos trivial, wipe_length, List.mem_cons, true_or, if_pos]
      by_cases hl : v < σ.length
      · simp [hl]
      · simp [hl]
    · rw [List.getElem?_set_ne h, wipe_at σ j vs]
      simp [Ne.symm h]
theorem wipeE_at (σ : Env) (j : Nat) : ∀ vs : List Nat, (wipeE σ vs)[j]? = if j ∈ vs then (σ[j]?).map fun _ => none else σ[j]?
  | [] => by simp [wipeE]
  | v :: vs => by
    unfold wipeE
    have hlen : ∀ vs : List Nat, (wipeE σ vs).length = σ.length := fun vs => by
      induction vs with
      | nil => rfl
      | cons a r ih => unfold wipeE; rw [List.length_set, ih]
    by_cases h : v = j
    · subst h
      rw [List.getElem?_set]
      simp only [if_pos trivial, hlen, List.mem_cons, true_or, if_pos]
      by_cases hl : v < σ.length
      · simp [hl]
      · simp [hl]
    · rw [List.getElem?_set_ne h, wipeE_at σ j vs]
      simp [Ne.symm h]
theorem wipeE_length (σ : Env) : ∀ vs : List Nat, (wipeE σ vs).length = σ.length
  | [] => rfl
  | v :: vs => by unfold wipeE; rw [List.length_set, wipeE_length σ vs]
theorem SL.wipe (z : SL K F0 H0 ρ σ F H) (vs : List Nat) : SL K F0 H0 (wipeE ρ vs) (wipe σ vs) F H := by
  have key : ∀ i s, (wipeE ρ vs)[i]? = some (some s) → ρ[i]? = some (some s) ∧ (L2.wipe σ vs)[i]? = σ[i]? := fun i s e => by
    rw [wipeE_at] at e
    rw [wipe_at]
    split at e
    · cases q : ρ[i]? <;> rw [q] at e <;> cases e
    · rename_i hn
      rw [if_neg hn]
      exact ⟨e, rfl⟩
  refine ⟨z.grow, by rw [wipe_length, wipeE_length, z.len], fun i s e => ?_, fun i j s t a hij e1 e2 o1 o2 f1 => ?_⟩
  · obtain ⟨h1, h2⟩ := key i s e
    rw [h2]
    exact z.slot i s h1
  · obtain ⟨h1, h2⟩ := key i s e1
    obtain ⟨h3, h4⟩ := key j t e2
    rw [h2] at f1
    rw [h4]
    exact z.apart i j s t a hij h1 h3 o1 o2 f1
/-- an object that no slot owns is written -/
theorem SL.poke (z : SL K F0 H0 ρ σ F H) {a : Addr} {o : HO} (hf : F a = none) (h0 : H0 a = none) (hs : ∀ (i : Nat) (s : S), ρ[i]? = some (some s) → s.own = true → σ[i]? ≠ some (some (V.ref a))) : SL K F0 H0 ρ σ F (upd H a o) := by
  refine ⟨⟨fun b u e => ?_, z.grow.ff, fun b u e => ?_, z.grow.nn⟩, z.len, fun i s e => ?_, z.apart⟩
  · have hb : b ≠ a := fun q => by rw [q, h0] at e; cases e
    rw [upd_ne hb]; exact z.grow.hh b u e
  · have hb : b ≠ a := fun q => by rw [q, hf] at e; cases e
    rw [upd_ne hb]; exact z.grow.fh b u e
  · obtain ⟨v, e1, ok⟩ := z.slot i s e
    refine ⟨v, e1, ?_⟩
    cases s with
    | d x => exact ok
    | ml xs =>
      obtain ⟨b, vs, eb, k0, kf, kh, r⟩ := ok
      subst eb
      have hb : b ≠ a := fun q => hs i _ e rfl (by rw [e1, q])
      exact ⟨b, vs, rfl, k0, kf, by rw [upd_ne hb]; exact kh, r⟩
    | md xs =>
      obtain ⟨b, vs, eb, k0, kf, kh, r⟩ := ok
      subst eb
      have hb : b ≠ a := fun q => hs i _ e rfl (by rw [e1, q])
      exact ⟨b, vs, rfl, k0, kf, by rw [upd_ne hb]; exact kh, r⟩
    | ob a0 n all fs =>
      obtain ⟨b, C, dx, vs, eb, k0, kf, kh, r⟩ := ok
      subst eb
      have hb : b ≠ a := fun q => hs i _ e rfl (by rw [e1, q])
      exact ⟨b, C, dx, vs, rfl, k0, kf, by rw [upd_ne hb]; exact kh, r⟩
    | xc a0 c => exact ok
theorem Else.wipe {is vs : List Nat} {σ' : L2.St} (e : Else is (L2.wipe σ vs) σ') (hv : ∀ i ∈ is, i ∈ vs) : L2.wipe σ' vs = L2.wipe σ vs := by
  have hl : σ'.length = σ.length := by rw [e.1, wipe_length]
  apply List.ext_getElem?
  intro j
  rw [wipe_at, wipe_at]
  split
  · rename_i hj
    by_cases h : j < σ.length
    · rw [List.getElem?_eq_getElem h, List.getElem?_eq_getElem (show j < σ'.length by omega)]; rfl
    · rw [List.getElem?_eq_none (show σ'.length ≤ j by omega), List.getElem?_eq_none (show σ.length ≤ j by omega)]
  · rename_i hj
    rw [e.2 j fun h => hj (hv j h), wipe_at, if_neg hj]
end

section
variable {X : Cx} {W W1 W2 : Wish} {elt tg iter : Expr} {ifs : List Expr} {scope : Scope} {own : List (Str × Nat)} {pos : Pos} {fi : Env → R (List D)} {is : List Nat} {gt : D → Env → Option Env} {tt : Env → R Bool} {fe : Env → R D}
abbrev DTs (X : Cx) (W : Wish) (ifs : List Expr) (f : Env → R Bool) : Prop := PTs X ifs (tG X.K W rT f)
theorem dts_nil : DTs X W [] (fun _ => .ok true) := ⟨fun pins s σ H Q I ⟨F0, H0, ρ, F, z, h⟩ => pts_nil.run pins s σ H Q I (h _ _ _ (Grow.refl z.sub) rfl)⟩
theorem dts_one {c : Expr} (h : DT X W c tt) : DTs X W [c] tt := pts_one h
theorem _root_.DL.Grow.poke {F H F' H' : Hp} {a : Addr} {o : HO} (g : Grow F H F' H') (hf : F' a = none) (h0 : H a = none) : Grow F H F' (upd H' a o) :=
  ⟨fun b u e => by rw [upd_ne (ne_of_none e h0)]; exact g.hh b u e, g.ff, fun b u e => by rw [upd_ne (ne_of_none e hf)]; exact g.fh b u e, g.nn⟩
theorem lcAll_cons {item : D → Option (Option D)} {d : D} {ds rest : List D} (e : lcAll item (d :: ds) = some rest) : ∃ o r, item d = some o ∧ lcAll item ds = some r ∧ rest = match o with | some y => y :: r | none => r := by
  unfold lcAll at e
  obtain ⟨o, e1, e2⟩ := Option.bind_eq_some_iff.mp e
  obtain ⟨r, e3, e4⟩ := Option.map_eq_some_iff.mp e2
  exact ⟨o, r, e1, e3, by rw [← e4]; cases o <;> rfl⟩
theorem calm_some {α : Type} {r : R α} {a : α} (h : calm r = some a) : r = .ok a := by
  cases r with
  | ok b => cases h; rfl
  | _ => cases h
theorem apart_new {σ : L2.St} {ρ : Env} {K : KF} {F0 H0 F H : Hp} {a : Addr} (z : SL K F0 H0 ρ σ F H) (hD : H a = none) : ∀ (i : Nat) (s : S), ρ[i]? = some (some s) → s.own = true → σ[i]? ≠ some (some (V.ref a)) := fun i s e1 o e2 => by
  obtain ⟨v, e3, ok⟩ := z.slot i s e1
  rw [e2] at e3
  cases e3
  cases s with
  | d x => cases o
  | ml xs =>
    obtain ⟨b, vs, eb, _, _, kh, _⟩ := ok
    cases eb
    rw [hD] at kh; cases kh
  | md xs =>
    obtain ⟨b, vs, eb, _, _, kh, _⟩ := ok
    cases eb
    rw [hD] at kh; cases kh
  | ob a0 n all fs =>
    obtain ⟨b, C, dx, vs, eb, _, _, kh, _⟩ := ok
    cases eb
    rw [hD] at kh; cases kh
  | xc a0 c => cases o
theorem lc_reads {vs : List Nat} (h0 : ∀ i ∈ is, i ∈ vs) {σ : L2.St} {H : Hp} {Q : VK} (h : tG X.K W (rF X.K) (fun ρ => (fi ρ).bind fun items => R.of (lcF vs gt tt fe ρ items)) σ H Q) :
    tLc (tG X.K W (rI X.K) fi) (tT X.K is gt) (tG X.K W1 rT tt) (tG X.K W2 (rV X.K) fe) vs σ H Q := by
  obtain ⟨F0, H0, ρ, F, z, h⟩ := h
  refine post_bind z rF_early h fun F1 H1 J items z1 g1 it h => ?_
  obtain ⟨ys, e, hF⟩ := post_of h
  unfold lcF at e
  by_cases hfew : few items
  case neg => rw [if_neg hfew] at e; cases e
  rw [if_pos hfew] at e
  obtain ⟨G, Y, w, hG, hY⟩ := it
  intro Dd hD
  have hF1D : F1 Dd = none := z1.sub.out hD
  have h0D : H0 Dd = none := z1.grow.hh.free hD
  have zw := z1.wipe vs
  have apart := apart_new zw hD
  refine lc_it w (fun i H => ∃ F acc done rest, SL X.K F0 H0 (wipeE ρ vs) (L2.wipe σ vs) F H ∧ Grow F1 H1 F H ∧ F Dd = none ∧ H Dd = some (.lst acc) ∧ RepL X.K F acc done ∧ acc.length ≤ i ∧
    lcAll (lcItem vs gt tt fe ρ) (items.drop i) = some rest ∧ done ++ rest = ys) ?_ ?_ ?_ ?_
  · exact ⟨F1, [], [], ys, zw.poke hF1D h0D apart, Grow.own z1.sub hD, hF1D, upd_same, .nil, Nat.le_refl _, e, rfl⟩
  · rintro i H hi ⟨F, _, _, _, zz, g, _⟩
    exact hG F H g.ff zz.sub
  · rintro i x H H' hi ⟨F, acc, dn, rest, zz, g, fD, hD2, ra, la, ea, eq⟩ y
    obtain ⟨d, F', ed, g2, r⟩ := hY i F H x H' g.ff zz.sub hi y
    have edr : items.drop i = d :: items.drop (i + 1) := by
      rw [List.drop_eq_getElem_cons hi]
      rw [List.getElem?_eq_getElem hi] at ed
      cases ed; rfl
    rw [edr] at ea
    obtain ⟨o, rest', e1, e2, e3⟩ := lcAll_cons ea
    subst e3
    unfold lcItem at e1
    obtain ⟨ρ1, e4, e5⟩ := Option.bind_eq_some_iff.mp e1
    obtain ⟨k, e6, e7⟩ := Option.bind_eq_some_iff.mp e5
    have e6 := calm_some e6
    have hHD : ∀ {F' H' : Hp}, Grow F H F' H' → F' Dd = none ∧ H' Dd = some (.lst acc) := fun gg => ⟨gg.nn Dd (by rw [hD2]; simp) fD, gg.hh _ _ hD2⟩
    refine ⟨F0, H0, wipeE ρ vs, F', d, ρ1, zz.up g2, r, e4, fun σ2 F2 H2 g3 z2 el => ⟨el.wipe h0, F0, H0, ρ1, F2, z2, ?_⟩⟩
    · rw [e6]
      intro b F3 H3 g4 hb
      cases hb
      have g24 := (g2.trans g3).trans g4
      cases k with
      | true =>
        rw [if_pos rfl] at e7 ⊢
        obtain ⟨yv, e8, e9⟩ := Option.map_eq_some_iff.mp e7
        subst e9
        have e8 := calm_some e8
        refine ⟨F0, H0, ρ1, F3, z2.up g4, ?_⟩
        rw [e8]
        intro v F4 H4 g5 rv
        have gg := g24.trans g5
        obtain ⟨f4, h4⟩ := hHD gg
        refine ⟨acc, h4, ?_, F4, acc ++ [v], dn ++ [yv], rest', (zz.up gg).poke f4 h0D apart, (g.trans gg).poke f4 hD, f4, upd_same, (ra.mono gg.ff).app (.cons rv .nil), ?_, e2, ?_⟩
        · rw [sizeLine_eq]
          have : items.length ≤ 16777216 := hfew
          omega
        · rw [List.length_append, List.length_singleton]; omega
        · rw [← eq, List.append_assoc]; rfl
      | false =>
        rw [if_neg Bool.false_ne_true] at e7 ⊢
        cases e7
        obtain ⟨f3, h3⟩ := hHD g24
        exact ⟨F3, acc, dn, rest', zz.up g24, g.trans g24, f3, h3, ra.mono g24.ff, by omega, e2, eq⟩
  · rintro H ⟨F, acc, dn, rest, zz, g, fD, hD2, ra, la, ea, eq⟩
    rw [List.drop_length] at ea
    cases ea
    rw [List.append_nil] at eq
    subst eq
    exact hF _ _ _ g ⟨Dd, acc, rfl, hD, fD, hD2, ra⟩
/-- [elt for tg in iter if ..], a new list -/
theorem df_lc (hc : X.calm = true) (hN : X.N.Nodup) (hi : DI X W tg iter fi) (ok : BlkOk X.N X.env.scope scope own)
    (hg : ∀ (s : Shared) (H : Hp) (C : Addr) (cl : List (Str × Addr)) (fp : List Addr), DG (X.blk s H scope (compEnvC scope cl C X.env) fp) tg is gt)
    (ht : ∀ (s : Shared) (H : Hp) (C : Addr) (cl : List (Str × Addr)) (fp : List Addr), DTs (X.blk s H scope (compEnvC scope cl C X.env) fp) W1 ifs tt)
    (he : ∀ (s : Shared) (H : Hp) (C : Addr) (cl : List (Str × Addr)) (fp : List Addr), DV (X.blk s H scope (compEnvC scope cl C X.env) fp) W2 elt fe)
    (h0 : ∀ i ∈ is, i ∈ own.map (·.2)) (hs : ∀ x, foldedSetIterable iter X.env x = pure x := by intro _; rfl) :
    DF X W (.ListComp elt [⟨tg, iter, ifs, 0⟩] scope pos) (fun ρ => (fi ρ).bind fun items => R.of (lcF (own.map (·.2)) gt tt fe ρ items)) :=
  (pe_lc hc hN hi ok hg ht he hs).weak fun σ H Q h => lc_reads h0 h
/-- name = [..] -/
theorem ps_lcG {i : Nat} {y : Str} {py spos : Pos} (hc : X.calm = true) (hN : X.N.Nodup) (hy : X.N[i]? = some y) (hyl : X.env.scope.names.lookup y = some .local)
    (hsw : swapsWith (.ListComp elt [⟨tg, iter, ifs, 0⟩] scope pos) (some (.Name y py)) spos.line X.env = pure true) (hi : DI X W tg iter fi) (ok : BlkOk X.N X.env.scope scope own)
    (hg : ∀ (s : Shared) (H : Hp) (C : Addr) (cl : List (Str × Addr)) (fp : List Addr), DG (X.blk s H scope (compEnvC scope cl C X.env) fp) tg is gt)
    (ht : ∀ (s : Shared) (H : Hp) (C : Addr) (cl : List (Str × Addr)) (fp : List Addr), DTs (X.blk s H scope (compEnvC scope cl C X.env) fp) W1 ifs tt)
    (he : ∀ (s : Shared) (H : Hp) (C : Addr) (cl : List (Str × Addr)) (fp : List Addr), DV (X.blk s H scope (compEnvC scope cl C X.env) fp) W2 elt fe)
    (h0 : ∀ i ∈ is, i ∈ own.map (·.2)) (hs : ∀ x, foldedSetIterable iter X.env x = pure x := by intro _; rfl) :
    PS X (.Assign [.Name y py] (.ListComp elt [⟨tg, iter, ifs, 0⟩] scope pos) spos) (tAsg (tG X.K W (rF X.K) (fun ρ => (fi ρ).bind fun items => R.of (lcF (own.map (·.2)) gt tt fe ρ items))) (gName i)) :=
  (ps_setLc hc hN hy hyl hsw hi ok hg ht he hs).weak fun D σ H h => lc_reads h0 h
end
end DL
/-! DL7: statements, loops, functions. -/
namespace DL
open PySem PySem.Spec PyProof.Rows L2

/-- how a statement ends -/
inductive Out where
  | nx (ρ : Env)
  | rt (r : Ret)
  | bk (ρ : Env)
  | ct (ρ : Env)
  | ex (c : Str) (ρ : Env)
def OutOk (K : KF) (W : Wish) (F0 H0 : Hp) (D : Ends) : Out → Prop
  | .nx ρ => ∀ σ F H, SL K F0 H0 ρ σ F H → D.nx σ H
  | .bk ρ => ∀ σ F H, SL K F0 H0 ρ σ F H → D.bk σ H
  | .ct ρ => ∀ σ F H, SL K F0 H0 ρ σ F H → D.ct σ H
  | .ex c ρ => ∀ σ F H, SL K F0 H0 ρ σ F H → W c σ H
  | .rt (.val d) => ∀ v F H, Grow F0 H0 F H → Rep K F v d → D.rt v H
  | .rt (.frl xs) => ∀ v F H, Grow F0 H0 F H → rF K F0 H0 F H v xs → D.rt v H
def tS (K : KF) (W : Wish) (g : Env → Option Out) : TS := fun D σ H => ∃ F0 H0 ρ F o, SL K F0 H0 ρ σ F H ∧ g ρ = some o ∧ OutOk K W F0 H0 D o
abbrev DS (X : Cx) (W : Wish) (st : Stmt) (g : Env → Option Out) : Prop := PS X st (tS X.K W g)
abbrev DSs (X : Cx) (W : Wish) (st : List Stmt) (g : Env → Option Out) : Prop := PSs X st (tS X.K W g)
def withR {α : Type} (r : R α) (ρ : Env) (k : α → Option Out) : Option Out := match r with
  | .ok a => k a
  | .err c => some (.ex c ρ)
  | .stuck => none
@[simp] theorem withR_ok {α : Type} (a : α) (ρ : Env) (k : α → Option Out) : withR (.ok a) ρ k = k a := rfl
@[simp] theorem withR_err {α : Type} (c : Str) (ρ : Env) (k : α → Option Out) : withR (.err c : R α) ρ k = some (.ex c ρ) := rfl
@[simp] theorem withR_stuck {α : Type} (ρ : Env) (k : α → Option Out) : withR (.stuck : R α) ρ k = none := rfl
def seqO (o : Option Out) (k : Env → Option Out) : Option Out := o.bind fun o => match o with
  | .nx ρ => k ρ
  | o => some o
@[simp] theorem seqO_nx (ρ : Env) (k : Env → Option Out) : seqO (some (.nx ρ)) k = k ρ := rfl
@[simp] theorem seqO_rt (r : Ret) (k : Env → Option Out) : seqO (some (.rt r)) k = some (.rt r) := rfl
@[simp] theorem seqO_bk (ρ : Env) (k : Env → Option Out) : seqO (some (.bk ρ)) k = some (.bk ρ) := rfl
@[simp] theorem seqO_ct (ρ : Env) (k : Env → Option Out) : seqO (some (.ct ρ)) k = some (.ct ρ) := rfl
@[simp] theorem seqO_ex (c : Str) (ρ : Env) (k : Env → Option Out) : seqO (some (.ex c ρ)) k = some (.ex c ρ) := rfl
@[simp] theorem seqO_none (k : Env → Option Out) : seqO none k = none := rfl

section
variable {K : KF} {W : Wish} {F0 H0 F H : Hp} {ρ : Env} {σ : L2.St} {D : Ends} {o : Out}
/-- first an expression, then what is done with its value -/
theorem tS_expr {β α : Type} {r : Rel β α} {f : Env → R α} {k : α → Option Out} {q : β → Hp → Prop} (z : SL K F0 H0 ρ σ F H) (e : withR (f ρ) ρ k = some o) (ho : OutOk K W F0 H0 D o)
    (hk : ∀ b a F1 H1, SL K F0 H0 ρ σ F1 H1 → Grow F H F1 H1 → r F H F1 H1 b a → k a = some o → q b H1) : tG K W r f σ H q := by
  refine ⟨F0, H0, ρ, F, z, ?_⟩
  cases h : f ρ with
  | stuck => rw [h] at e; cases e
  | err c =>
    rw [h] at e
    cases e
    exact fun F1 H1 g => ho σ F1 H1 (z.up g)
  | ok a =>
    rw [h] at e
    exact fun b F1 H1 g hr => hk b a F1 H1 (z.up g) g hr e
theorem tS_of {g : Env → Option Out} (z : SL K F0 H0 ρ σ F H) (e : g ρ = some o) (ho : OutOk K W F0 H0 D o) : tS K W g D σ H := ⟨F0, H0, ρ, F, o, z, e, ho⟩
end

section
variable {X : Cx} {W : Wish} {st : Stmt} {sts : List Stmt} {g g1 g2 : Env → Option Out} {pos : Pos} {e : Expr}
theorem dss_nil : DSs X W [] (fun ρ => some (.nx ρ)) := pss_nil.weak fun D σ H ⟨F0, H0, ρ, F, o, z, e, ho⟩ => by
  cases e
  exact ho σ F H z
theorem dss_cons (h1 : DS X W st g1) (h2 : DSs X W sts g2) : DSs X W (st :: sts) (fun ρ => seqO (g1 ρ) g2) := (pss_cons h1 h2).weak fun D σ H ⟨F0, H0, ρ, F, o, z, e, ho⟩ => by
  have e : seqO (g1 ρ) g2 = some o := e
  cases q : g1 ρ with
  | none => rw [q] at e; cases e
  | some o1 =>
    rw [q] at e
    refine ⟨F0, H0, ρ, F, o1, z, q, ?_⟩
    cases o1 with
    | nx ρ1 => exact fun σ1 F1 H1 z1 => ⟨F0, H0, ρ1, F1, o, z1, e, ho⟩
    | rt r => cases e; cases r <;> exact ho
    | bk ρ1 => cases e; exact ho
    | ct ρ1 => cases e; exact ho
    | ex c ρ1 => cases e; exact ho
theorem dss_one (h1 : DS X W st g1) : DSs X W [st] g1 := pss_one h1
theorem ds_pass : DS X W (.Pass pos) (fun ρ => some (.nx ρ)) := ps_pass.weak fun D σ H ⟨F0, H0, ρ, F, o, z, e, ho⟩ => by cases e; exact ho σ F H z
theorem ds_break : DS X W (.Break pos) (fun ρ => some (.bk ρ)) := ps_break.weak fun D σ H ⟨F0, H0, ρ, F, o, z, e, ho⟩ => by cases e; exact ho σ F H z
theorem ds_continue : DS X W (.Continue pos) (fun ρ => some (.ct ρ)) := ps_continue.weak fun D σ H ⟨F0, H0, ρ, F, o, z, e, ho⟩ => by cases e; exact ho σ F H z
theorem ds_doc {x j pos'} : DS X W (.Expr (.Constant (.str x) j pos) pos') (fun ρ => some (.nx ρ)) := ps_doc.weak fun D σ H ⟨F0, H0, ρ, F, o, z, e, ho⟩ => by cases e; exact ho σ F H z
theorem ds_never : DS X W st (fun _ => none) := ps_never.weak fun D σ H ⟨F0, H0, ρ, F, o, z, e, ho⟩ => by cases e
/-- name = e -/
theorem ds_set {i : Nat} {f : Env → R D} (h : PS X st (tAsg (tG X.K W (rV X.K) f) (gName i))) : DS X W st (fun ρ => withR (f ρ) ρ fun d => some (.nx (ρ.set i (some (.d d))))) := h.weak fun D σ H ⟨F0, H0, ρ, F, o, z, e, ho⟩ =>
  tS_expr z e ho fun v d F1 H1 z1 g1 r e => by
    cases e
    exact ho _ F1 H1 (z1.setD i r)
/-- name = e, e a new list of one's own -/
theorem ds_setF {i : Nat} {f : Env → R (List D)} (h : PS X st (tAsg (tG X.K W (rF X.K) f) (gName i))) : DS X W st (fun ρ => withR (f ρ) ρ fun d => some (.nx (ρ.set i (some (.ml d))))) := h.weak fun D σ H ⟨F0, H0, ρ, F, o, z, e, ho⟩ =>
  tS_expr z e ho fun v xs F1 H1 z1 g1 r e => by
    cases e
    obtain ⟨a, vs, rfl, h0, hf, hh, rl⟩ := r
    refine ho _ F1 H1 (z1.setS i (s := .ml xs) ⟨a, vs, rfl, z.grow.hh.free h0, hf, hh, rl⟩ fun _ j t b hj e1 o1 eb e2 => ?_)
    cases eb
    exact apart_new z h0 j t e1 o1 e2
/-- a target that is not a name = e -/
theorem ds_asg {is : List Nat} {f : Env → R D} {gt : D → Env → Option Env} (h : PS X st (tAsg (tG X.K W (rV X.K) f) (tT X.K is gt))) : DS X W st (fun ρ => withR (f ρ) ρ fun d => (gt d ρ).map .nx) := h.weak fun D σ H ⟨F0, H0, ρ, F, o, z, e, ho⟩ =>
  tS_expr z e ho fun v d F1 H1 z1 g1 r e => by
    obtain ⟨ρ1, e1, e2⟩ := Option.map_eq_some_iff.mp e
    subst e2
    exact ⟨F0, H0, ρ, F1, d, ρ1, z1, r, e1, fun σ2 F2 H2 g2 z2 _ => ho σ2 F2 H2 z2⟩
theorem ds_expr {f : Env → R D} (h : PS X st (tDrop (tG X.K W (rV X.K) f))) : DS X W st (fun ρ => withR (f ρ) ρ fun _ => some (.nx ρ)) := h.weak fun D σ H ⟨F0, H0, ρ, F, o, z, e, ho⟩ =>
  tS_expr z e ho fun v d F1 H1 z1 g1 r e => by
    cases e
    exact ho σ F1 H1 z1
theorem ds_ret {f : Env → R D} (h : DV X W e f) : DS X W (.Return (some e) pos) (fun ρ => withR (f ρ) ρ fun d => some (.rt (.val d))) := (ps_ret h).weak fun D σ H ⟨F0, H0, ρ, F, o, z, e, ho⟩ =>
  tS_expr z e ho fun v d F1 H1 z1 g1 r e => by
    cases e
    exact ho v F1 H1 z1.grow r
theorem ds_retF {f : Env → R (List D)} (h : DF X W e f) : DS X W (.Return (some e) pos) (fun ρ => withR (f ρ) ρ fun d => some (.rt (.frl d))) := (ps_ret h).weak fun D σ H ⟨F0, H0, ρ, F, o, z, e, ho⟩ =>
  tS_expr z e ho fun v d F1 H1 z1 g1 r e => by
    cases e
    obtain ⟨a, vs, rfl, h0, r⟩ := r
    exact ho _ F1 H1 z1.grow ⟨a, vs, rfl, z.grow.hh.free h0, r⟩
/-- return xs, xs a list of one's own -/
theorem ds_retOwn (i : Nat) {x : Str} {p : Pos} (h : PE X (.Name x p) (tVar i)) : DS X W (.Return (some (.Name x p)) pos) (fun ρ => match ρ[i]? with | some (some (.ml xs)) => some (.rt (.frl xs)) | _ => none) := (ps_ret h).weak fun D σ H ⟨F0, H0, ρ, F, o, z, e, ho⟩ => by
  have e : (match ρ[i]? with | some (some (.ml xs)) => some (Out.rt (.frl xs)) | _ => none) = some o := e
  split at e
  · rename_i xs q
    cases e
    obtain ⟨v, e1, a, vs, rfl, h0, hf, hh, r⟩ := z.slot i _ q
    exact ⟨_, e1, ho _ F H z.grow ⟨a, vs, rfl, h0, hf, hh, r⟩⟩
  · cases e
theorem ds_retN : DS X W (.Return none pos) (fun _ => some (.rt (.val .non))) := ps_retN.weak fun D σ H ⟨F0, H0, ρ, F, o, z, e, ho⟩ => by
  cases e
  exact ho _ F H z.grow .non
theorem ds_if {c : Expr} {a b : List Stmt} {tc : Env → R Bool} (hc : DT X W c tc) (ha : DSs X W a g1) (hb : DSs X W b g2) : DS X W (.If c a b pos) (fun ρ => withR (tc ρ) ρ fun k => if k = true then g1 ρ else g2 ρ) := (ps_if hc ha hb).weak fun D σ H ⟨F0, H0, ρ, F, o, z, e, ho⟩ =>
  tS_expr z e ho fun k d F1 H1 z1 gg r e => by
    cases r
    cases k with
    | true => exact ⟨F0, H0, ρ, F1, o, z1, e, ho⟩
    | false => exact ⟨F0, H0, ρ, F1, o, z1, e, ho⟩
def slotL (i : Nat) (ρ : Env) : Option (List D) := match ρ[i]? with
  | some (some (.ml xs)) => some xs
  | _ => none
theorem slotL_some {i : Nat} {ρ : Env} {xs : List D} (h : slotL i ρ = some xs) : ρ[i]? = some (some (.ml xs)) := by
  unfold slotL at h
  split at h
  · rename_i q; cases h; exact q
  · cases h
/-- a list of one's own is written -/
theorem SL.updL {K : KF} {F0 H0 F H : Hp} {ρ : Env} {σ : L2.St} (z : SL K F0 H0 ρ σ F H) {i : Nat} {xs ys : List D} {a : Addr} {us : List V} (q : ρ[i]? = some (some (.ml xs))) (e1 : σ[i]? = some (some (.ref a))) (r : RepL K F us ys) :
    SL K F0 H0 (ρ.set i (some (.ml ys))) σ F (upd H a (.lst us)) := by
  obtain ⟨v', e1', a', vs', ea, h0, hf, hh, _⟩ := z.slot i _ q
  rw [e1] at e1'
  cases e1'
  cases ea
  have ap : ∀ (j : Nat) (t : S), ρ[j]? = some (some t) → t.own = true → j ≠ i → σ[j]? ≠ some (some (V.ref a)) := fun j t e3 o3 hj e4 => z.apart j i t _ a hj e3 q o3 rfl e4 e1
  have hi : i < ρ.length := (List.getElem?_eq_some_iff.mp q).1
  have z2 : SL K F0 H0 (ρ.set i none) (σ.set i none) F H := z.wipe [i]
  have z3 := z2.poke (o := .lst us) hf h0 fun j t e3 o3 e4 => by
    by_cases hj : i = j
    · subst hj
      rw [List.getElem?_set_self hi] at e3
      cases e3
    · rw [List.getElem?_set_ne hj] at e3 e4
      exact ap j t e3 o3 (Ne.symm hj) e4
  have z4 := z3.setS i (v := .ref a) (s := .ml ys) ⟨a, us, rfl, h0, hf, upd_same, r⟩ fun _ j t b hj e3 o3 eb e4 => by
    cases eb
    rw [List.getElem?_set_ne (Ne.symm hj)] at e3 e4
    exact ap j t e3 o3 hj e4
  rw [List.set_set, List.set_set] at z4
  have es : σ.set i (some (.ref a)) = σ := by
    apply List.ext_getElem?
    intro j
    by_cases hj : i = j
    · subst hj
      rw [List.getElem?_set_self (by rw [z.len]; exact hi), e1]
    · rw [List.getElem?_set_ne hj]
  rw [es] at z4
  exact z4
/-- xs.append(e), xs a list of one's own -/
theorem ds_append (i : Nat) {x : Str} {p apos cpos : Pos} {f : Env → R D} (hv : PE X (.Name x p) (tVar i)) (he : DV X W e f)
    (hst : starEach (e :: []) X.env = (false, eval e X.env) :: starEach [] X.env := by rfl)
    (hbase : attributeBase (.Name x p) "append" X.env (eval (.Name x p) X.env) = eval (.Name x p) X.env := by rfl)
    (hfew : ((backTo cpos (starEach (e :: []) X.env)).all (fun x => !x.1) && (backToKw cpos (keywordEach [] X.env)).all (fun x => x.1.isSome)
      && decide ((e :: []).length + ([] : List Keyword).length + (if ([] : List Keyword).isEmpty then 0 else 1) < 30)) = true := by rfl)
    (hline : (apos.endLine == cpos.line) = true := by rfl) (hplain : (backTo cpos (starEach [] X.env)).any (·.1) = false := by rfl)
    (hs : swapsWith (.Call (.Attribute (.Name x p) "append" apos) [e] [] cpos) none pos.line X.env = pure false := by rfl) :
    DS X W (.Expr (.Call (.Attribute (.Name x p) "append" apos) [e] [] cpos) pos) (fun ρ => (slotL i ρ).bind fun xs => withR (f ρ) ρ fun d => if xs.length < 16777216 then some (.nx (ρ.set i (some (.ml (xs ++ [d]))))) else none) :=
  (ps_expr (pe_bm PySem.F.plainAttrs_list PySem.F.slot_list_append PySem.F.type_list_append mt_append hv (pa_cons he pa_nil hst) hbase hfew hline hst hplain) hs).weak fun D σ H ⟨F0, H0, ρ, F, o, z, e, ho⟩ => by
    obtain ⟨xs, q, e⟩ := Option.bind_eq_some_iff.mp e
    have q := slotL_some q
    obtain ⟨v, e1, a, vs, rfl, h0, hf, hh, r⟩ := z.slot i _ q
    refine ⟨_, e1, .inl ⟨rfl, vs, SqL.of hh⟩, tS_expr z e ho fun w d F1 H1 z1 g1 rw e => ?_⟩
    obtain ⟨v', e1', a', vs', ea, h0', hf', hh', r'⟩ := z1.slot i _ q
    rw [e1] at e1'
    cases e1'
    cases ea
    split at e
    · rename_i hl
      cases e
      exact ⟨a, vs', w, rfl, rfl, hh', by rw [sizeLine_eq, r'.len]; exact hl, ho σ F1 _ (z1.updL q e1 (r'.app (.cons rw .nil)))⟩
    · cases e
def insD (xs : List D) (j d : D) : Option (List D) := match j with
  | .int j => if xs.length < 16777216 ∧ 0 ≤ j ∧ j ≤ xs.length then some (xs.take j.toNat ++ [d] ++ xs.drop j.toNat) else none
  | _ => none
theorem insD_some {xs ys : List D} {j d : D} (h : insD xs j d = some ys) : ∃ k : Int, j = .int k ∧ (xs.length < 16777216 ∧ 0 ≤ k ∧ k ≤ xs.length) ∧ ys = xs.take k.toNat ++ [d] ++ xs.drop k.toNat := by
  unfold insD at h
  split at h
  · split at h
    · rename_i k hk
      cases h
      exact ⟨_, rfl, hk, rfl⟩
    · cases h
  · cases h
/-- xs.insert(i, e), 0 ≤ i ≤ len -/
theorem ds_insert (i : Nat) {x : Str} {p apos cpos : Pos} {e2 : Expr} {f f2 : Env → R D} (hv : PE X (.Name x p) (tVar i)) (he : DV X W e f) (he2 : DV X W e2 f2)
    (hst : starEach (e :: [e2]) X.env = (false, eval e X.env) :: starEach [e2] X.env := by rfl) (hst2 : starEach (e2 :: []) X.env = (false, eval e2 X.env) :: starEach [] X.env := by rfl)
    (hbase : attributeBase (.Name x p) "insert" X.env (eval (.Name x p) X.env) = eval (.Name x p) X.env := by rfl)
    (hfew : ((backTo cpos (starEach (e :: [e2]) X.env)).all (fun x => !x.1) && (backToKw cpos (keywordEach [] X.env)).all (fun x => x.1.isSome)
      && decide ((e :: [e2]).length + ([] : List Keyword).length + (if ([] : List Keyword).isEmpty then 0 else 1) < 30)) = true := by rfl)
    (hline : (apos.endLine == cpos.line) = true := by rfl) (hplain : (backTo cpos (starEach [e2] X.env)).any (·.1) = false := by rfl)
    (hs : swapsWith (.Call (.Attribute (.Name x p) "insert" apos) [e, e2] [] cpos) none pos.line X.env = pure false := by rfl) :
    DS X W (.Expr (.Call (.Attribute (.Name x p) "insert" apos) [e, e2] [] cpos) pos) (fun ρ => (slotL i ρ).bind fun xs => withR (f ρ) ρ fun j => withR (f2 ρ) ρ fun d => (insD xs j d).map fun ys => .nx (ρ.set i (some (.ml ys)))) :=
  (ps_expr (pe_bm PySem.F.plainAttrs_list PySem.F.slot_list_insert PySem.F.type_list_insert mt_insert hv (pa_cons he (pa_cons he2 pa_nil hst2) hst) hbase hfew hline hst hplain) hs).weak fun D σ H ⟨F0, H0, ρ, F, o, z, e, ho⟩ => by
    obtain ⟨xs, q, e⟩ := Option.bind_eq_some_iff.mp e
    have q := slotL_some q
    obtain ⟨v, e1, a, vs, rfl, h0, hf, hh, r⟩ := z.slot i _ q
    refine ⟨_, e1, .inl ⟨rfl, vs, SqL.of hh⟩, tS_expr z e ho fun w j F1 H1 z1 g1 rw e => tS_expr z1 e ho fun w2 d F2 H2 z2 g2 rw2 e => ?_⟩
    obtain ⟨v', e1', a', vs', ea, h0', hf', hh', r'⟩ := z2.slot i _ q
    rw [e1] at e1'
    cases e1'
    cases ea
    obtain ⟨ys, e3, e4⟩ := Option.map_eq_some_iff.mp e
    subst e4
    obtain ⟨k, ek, hl, ey⟩ := insD_some e3
    subst ek ey
    have ew : w = .int k := by
      have rw' : Rep X.K F1 w (.int k) := rw
      cases rw'; rfl
    subst ew
    exact ⟨a, vs', k, w2, rfl, rfl, hh', by rw [sizeLine_eq, r'.len]; exact hl.1, hl.2.1, by omega, ho σ F2 _ (z2.updL q e1 (((r'.take _).app (.cons rw2 .nil)).app (r'.drop _)))⟩
end
end DL
/-! DL8: for, op=, functions. -/
namespace DL
open PySem PySem.Spec PyProof.Rows L2

def afterO (o : Out) (k : Env → Option Out) : Option Out := match o with
  | .nx ρ => k ρ
  | .ct ρ => k ρ
  | .bk ρ => some (.nx ρ)
  | .rt r => some (.rt r)
  | .ex c ρ => some (.ex c ρ)
@[simp] theorem afterO_nx (ρ : Env) (k : Env → Option Out) : afterO (.nx ρ) k = k ρ := rfl
@[simp] theorem afterO_ct (ρ : Env) (k : Env → Option Out) : afterO (.ct ρ) k = k ρ := rfl
@[simp] theorem afterO_bk (ρ : Env) (k : Env → Option Out) : afterO (.bk ρ) k = some (.nx ρ) := rfl
@[simp] theorem afterO_rt (r : Ret) (k : Env → Option Out) : afterO (.rt r) k = some (.rt r) := rfl
@[simp] theorem afterO_ex (c : Str) (ρ : Env) (k : Env → Option Out) : afterO (.ex c ρ) k = some (.ex c ρ) := rfl
def forD (gt : D → Env → Option Env) (g : Env → Option Out) : List D → Env → Option Out
  | [], ρ => some (.nx ρ)
  | d :: ds, ρ => (gt d ρ).bind fun ρ1 => (g ρ1).bind fun o => afterO o (forD gt g ds)

def join (F H : Hp) : Hp := fun a => match F a with
  | some o => some o
  | none => H a
theorem join_F {F H : Hp} {a : Addr} {o : HO} (h : F a = some o) : join F H a = some o := by unfold join; rw [h]
theorem join_none {F H : Hp} {a : Addr} (h : F a = none) : join F H a = H a := by unfold join; rw [h]
theorem join_out {F H : Hp} {a : Addr} (h : join F H a = none) : F a = none ∧ H a = none := by
  unfold join at h
  cases q : F a with
  | some o => rw [q] at h; cases h
  | none => rw [q] at h; exact ⟨rfl, h⟩
section
variable {K : KF} {F0 H0 F1 H1 F H : Hp} {ρ ρ0 : Env} {σ σ0 : L2.St}
theorem join_sub (z : SL K F0 H0 ρ0 σ0 F1 H1) : Same (join F1 H0) H1 := fun a o e => by
  cases q : F1 a with
  | some u => rw [join_F q] at e; cases e; exact z.grow.fh _ _ q
  | none => rw [join_none q] at e; exact z.grow.hh _ _ e
theorem join_sup (z : SL K F0 H0 ρ0 σ0 F1 H1) {a : Addr} {o : HO} (h : H0 a = some o) : join F1 H0 a = some o := by
  cases q : F1 a with
  | some u =>
    rw [join_F q]
    have e1 := z.grow.fh _ _ q
    rw [z.grow.hh _ _ h] at e1
    exact e1.symm
  | none => rw [join_none q]; exact h
theorem SL.rebase (z : SL K F0 H0 ρ0 σ0 F1 H1) : SL K F1 (join F1 H0) ρ0 σ0 F1 H1 := by
  refine ⟨⟨join_sub z, Same.refl _, z.grow.fh, fun a _ h => h⟩, z.len, fun i s e => ?_, z.apart⟩
  obtain ⟨v, e1, ok⟩ := z.slot i s e
  refine ⟨v, e1, ?_⟩
  cases s with
  | d x => exact ok
  | ml xs =>
    obtain ⟨b, vs, eb, k0, kf, kh, r⟩ := ok
    exact ⟨b, vs, eb, by rw [join_none kf]; exact k0, kf, kh, r⟩
  | md xs =>
    obtain ⟨b, vs, eb, k0, kf, kh, r⟩ := ok
    exact ⟨b, vs, eb, by rw [join_none kf]; exact k0, kf, kh, r⟩
  | ob a0 n all fs =>
    obtain ⟨b, C, dx, vs, eb, k0, kf, kh, r⟩ := ok
    exact ⟨b, C, dx, vs, eb, by rw [join_none kf]; exact k0, kf, kh, r⟩
  | xc a9 c9 => exact ok
theorem Grow.unbase (z : SL K F0 H0 ρ0 σ0 F1 H1) (g : Grow F1 (join F1 H0) F H) : Grow F0 H0 F H :=
  ⟨fun a o e => g.hh a o (join_sup z e), z.grow.ff.trans g.ff, g.fh, fun a h f => by
    have f1 := z.grow.nn a h f
    refine g.nn a ?_ f1
    rw [join_none f1]; exact h⟩
theorem SL.unbase (z : SL K F0 H0 ρ0 σ0 F1 H1) (w : SL K F1 (join F1 H0) ρ σ F H) : SL K F0 H0 ρ σ F H := by
  refine ⟨w.grow.unbase z, w.len, fun i s e => ?_, w.apart⟩
  obtain ⟨v, e1, ok⟩ := w.slot i s e
  refine ⟨v, e1, ?_⟩
  cases s with
  | d x => exact ok
  | ml xs =>
    obtain ⟨b, vs, eb, k0, kf, kh, r⟩ := ok
    exact ⟨b, vs, eb, (join_out k0).2, kf, kh, r⟩
  | md xs =>
    obtain ⟨b, vs, eb, k0, kf, kh, r⟩ := ok
    exact ⟨b, vs, eb, (join_out k0).2, kf, kh, r⟩
  | ob a0 n all fs =>
    obtain ⟨b, C, dx, vs, eb, k0, kf, kh, r⟩ := ok
    exact ⟨b, C, dx, vs, eb, (join_out k0).2, kf, kh, r⟩
  | xc a9 c9 => exact ok
end

section
variable {X : Cx} {W : Wish} {tg iter : Expr} {body : List Stmt} {is : List Nat} {fi : Env → R (List D)} {gt : D → Env → Option Env} {g : Env → Option Out} {pos : Pos}
theorem ds_for (hp : PassesOwn (model X.prog X.w) X.A X.env X.xe) (hc : X.calm = true) (hi : DI X W tg iter fi) (hg : DG X tg is gt) (hb : DSs X W body g) (hs : ∀ x, foldedSetIterable iter X.env x = pure x := by intro _; rfl) :
    DS X W (.For tg iter body [] pos) (fun ρ => withR (fi ρ) ρ fun items => forD gt g items ρ) := (ps_for hp hc hi hg hb hs).weak fun Dn σ H ⟨F0, H0, ρ, F, o, z, e, ho⟩ =>
  tS_expr z e ho fun J items F1 H1 z1 g1 it e => by
    obtain ⟨G, Y, w, hG, hY⟩ := it
    refine for_it w (fun i σ H => ∃ ρ F, SL X.K F1 (join F1 H0) ρ σ F H ∧ forD gt g (items.drop i) ρ = some o) ⟨ρ, F1, z1.rebase, e⟩ ?_ ?_ ?_
    · rintro i σ H hi ⟨ρ, F, zz, _⟩
      exact hG F H zz.grow.ff zz.sub
    · rintro i x σ H H' hi ⟨ρ, F, zz, e⟩ y
      obtain ⟨d, F', ed, g2, r⟩ := hY i F H x H' zz.grow.ff zz.sub hi y
      have edr : items.drop i = d :: items.drop (i + 1) := by
        rw [List.drop_eq_getElem_cons hi]
        rw [List.getElem?_eq_getElem hi] at ed
        cases ed; rfl
      rw [edr] at e
      unfold forD at e
      obtain ⟨ρ1, e1, e2⟩ := Option.bind_eq_some_iff.mp e
      obtain ⟨o1, e3, e4⟩ := Option.bind_eq_some_iff.mp e2
      refine ⟨F1, join F1 H0, ρ, F', d, ρ1, zz.up g2, r, e1, fun σ2 F2 H2 g3 z2 el => ⟨F1, join F1 H0, ρ1, F2, o1, z2, e3, ?_⟩⟩
      cases o1 with
      | nx ρ2 => exact fun σ F H z => ⟨ρ2, F, z, e4⟩
      | ct ρ2 => exact fun σ F H z => ⟨ρ2, F, z, e4⟩
      | bk ρ2 => cases e4; exact fun σ F H z => ho σ F H (z1.unbase z)
      | rt r =>
        cases e4
        cases r with
        | val d => exact fun v F H gg r => ho v F H (gg.unbase z1) r
        | frl xs => exact fun v F H gg ⟨a, vs, ea, h0, r⟩ => ho v F H (gg.unbase z1) ⟨a, vs, ea, (join_out h0).2, r⟩
      | ex c ρ2 => cases e4; exact fun σ F H z => ho σ F H (z1.unbase z)
    · rintro σ H ⟨ρ, F, zz, e⟩
      rw [List.drop_length] at e
      cases e
      exact ho σ F H (z1.unbase zz)
end

section
variable {X : Cx} {W : Wish} {st : Stmt} {sts : List Stmt} {e : Expr} {pos : Pos} {g : Env → Option Out}
def slotD (i : Nat) (ρ : Env) : Option D := match ρ[i]? with
  | some (some (.d x)) => some x
  | _ => none
theorem slotD_some {i : Nat} {ρ : Env} {x : D} (h : slotD i ρ = some x) : ρ[i]? = some (some (.d x)) := by
  unfold slotD at h
  split at h
  · rename_i q; cases h; exact q
  · cases h
/-- name op= e -/
theorem ds_aug {i : Nat} {f : Env → R D} {r : R2} {op : D → D → Option D}
    (hg : ∀ F H v u x y d (Q : VK), Same F H → RepB X.K F H v x → RepB X.K F H u y → op x y = some d → (∀ w F' H', Grow F H F' H' → Rep X.K F' w d → Q w H') → r v u H Q)
    (h : PS X st (tAug i (tG X.K W (rV X.K) f) r)) : DS X W st (fun ρ => (slotD i ρ).bind fun x => withR (f ρ) ρ fun y => (op x y).map fun d => .nx (ρ.set i (some (.d d)))) := h.weak fun Dn σ H ⟨F0, H0, ρ, F, o, z, e, ho⟩ => by
  obtain ⟨x, q, e⟩ := Option.bind_eq_some_iff.mp e
  have q := slotD_some q
  obtain ⟨v, e1, rv⟩ := z.slot i _ q
  refine ⟨v, e1, tS_expr z e ho fun u y F1 H1 z1 g1 ry e => ?_⟩
  obtain ⟨d, e2, e3⟩ := Option.map_eq_some_iff.mp e
  subst e3
  refine hg F1 H1 v u x y d _ z1.sub (.rep (Rep.mono (show Rep X.K F v x from rv) g1.ff)) (.rep ry) e2 fun w F' H' g2 rw => ho _ F' H' ((z1.up g2).setD i rw)
def oAug : D → D → Option D
  | .int i, .int j => some (.int (i + j))
  | .str a, .str b => if a.length + b.length ≤ 16777216 then some (.str (a ++ b)) else none
  | _, _ => none
theorem aug_add : ∀ F H v u x y d (Q : VK), Same F H → RepB X.K F H v x → RepB X.K F H u y → oAug x y = some d → (∀ w F' H', Grow F H F' H' → Rep X.K F' w d → Q w H') →
    (fun x y H Q => (rI0 fun i j => .int (i + j)) x y H Q ∨ (∃ i j, x = .str i ∧ y = .str j ∧ i.length + j.length ≤ sizeLine ∧ Q (.str (i ++ j)) H)) v u H Q := fun F H v u x y d Q s r1 r2 e h => by
  unfold oAug at e
  split at e
  · cases e; exact .inl ⟨_, _, r1.int, r2.int, h _ _ _ (Grow.refl s) (.int _)⟩
  · split at e
    · rename_i hl
      cases e; exact .inr ⟨_, _, r1.str, r2.str, by rw [sizeLine_eq]; exact hl, h _ _ _ (Grow.refl s) (.str _)⟩
    · cases e
  · cases e

/-- the list of one's own at i stays as it is from here on -/
def freeze (i : Nat) (ρ : Env) : Env := match ρ[i]? with
  | some (some (.ml xs)) => ρ.set i (some (.d (.lst xs)))
  | some (some (.md xs)) => ρ.set i (some (.d (.dct xs)))
  | some (some (.ob _ n _ fs)) => ρ.set i (some (.d (.obj n fs)))
  | _ => ρ
theorem SL.freezeAt {K : KF} {F0 H0 F H : Hp} {ρ : Env} {σ : L2.St} (z : SL K F0 H0 ρ σ F H) {i : Nat} {s : S} {d : D} {a : Addr} {o : HO} (q : ρ[i]? = some (some s)) (os : s.own = true) (e1 : σ[i]? = some (some (.ref a))) (h0 : H0 a = none) (hf : F a = none) (hh : H a = some o)
    (r : Rep K (upd F a o) (.ref a) d) : SL K F0 H0 (ρ.set i (some (.d d))) σ (upd F a o) H := by
  have up : Same F (upd F a o) := Same.add hf
  have hi : i < ρ.length := (List.getElem?_eq_some_iff.mp q).1
  refine ⟨⟨z.grow.hh, z.grow.ff.trans up, fun b u e => ?_, fun b hb e => ?_⟩, by rw [List.length_set]; exact z.len, fun j t e => ?_, fun j k t u b hjk e2 e3 o1 o2 f1 => ?_⟩
  · by_cases hb : b = a
    · subst hb; rw [upd_same] at e; cases e; exact hh
    · rw [upd_ne hb] at e; exact z.grow.fh b u e
  · rw [upd_ne (fun q => hb (by rw [q]; exact h0))]; exact z.grow.nn b hb e
  · by_cases hj : i = j
    · subst hj
      rw [List.getElem?_set_self hi] at e
      cases e
      exact ⟨_, e1, r⟩
    · rw [List.getElem?_set_ne hj] at e
      obtain ⟨v, e4, ok⟩ := z.slot j t e
      refine ⟨v, e4, ?_⟩
      have ne : t.own = true → v ≠ .ref a := fun ot ev => z.apart j i t s a (Ne.symm hj) e q ot os (by rw [e4, ev]) e1
      cases t with
      | d x => exact Rep.mono (show Rep K F v x from ok) up
      | ml xs =>
        obtain ⟨b, vs, eb, k0, kf, kh, r⟩ := ok
        exact ⟨b, vs, eb, k0, by rw [upd_ne (fun q => ne rfl (by rw [eb, q]))]; exact kf, kh, r.mono up⟩
      | md xs =>
        obtain ⟨b, vs, eb, k0, kf, kh, r⟩ := ok
        exact ⟨b, vs, eb, k0, by rw [upd_ne (fun q => ne rfl (by rw [eb, q]))]; exact kf, kh, r.mono up⟩
      | ob a0 n all fs =>
        obtain ⟨b, C, dx, vs, eb, k0, kf, kh, r, c⟩ := ok
        exact ⟨b, C, dx, vs, eb, k0, by rw [upd_ne (fun q => ne rfl (by rw [eb, q]))]; exact kf, kh, r.mono up, c⟩
      | xc a9 c9 => exact ok
  · have nj : i ≠ j := fun hj => by
      subst hj
      rw [List.getElem?_set_self hi] at e2
      cases e2; cases o1
    have nk : i ≠ k := fun hj => by
      subst hj
      rw [List.getElem?_set_self hi] at e3
      cases e3; cases o2
    rw [List.getElem?_set_ne nj] at e2
    rw [List.getElem?_set_ne nk] at e3
    exact z.apart j k t u b hjk e2 e3 o1 o2 f1
theorem SL.frz {K : KF} {F0 H0 F H : Hp} {ρ : Env} {σ : L2.St} (z : SL K F0 H0 ρ σ F H) (i : Nat) : ∃ F', SL K F0 H0 (freeze i ρ) σ F' H := by
  unfold freeze
  split
  · rename_i xs q
    obtain ⟨v, e1, a, vs, rfl, h0, hf, hh, r⟩ := z.slot i _ q
    exact ⟨_, z.freezeAt q rfl e1 h0 hf hh (.lst upd_same (r.mono (Same.add hf)))⟩
  · rename_i xs q
    obtain ⟨v, e1, a, vs, rfl, h0, hf, hh, r⟩ := z.slot i _ q
    exact ⟨_, z.freezeAt q rfl e1 h0 hf hh (.dct upd_same (r.mono (Same.add hf)))⟩
  · rename_i a0 n all fs q
    obtain ⟨v, e1, a, C, dx, vs, rfl, h0, hf, hh, r, c, ca⟩ := z.slot i _ q
    exact ⟨_, z.freezeAt q rfl e1 h0 hf hh (.obj upd_same ⟨c.at_, c.cls, fun f hf => c.no f (ca.1 f hf)⟩ (r.mono (Same.add hf)))⟩
  · exact ⟨F, z⟩
theorem dss_frz (i : Nat) (h : DSs X W sts g) : DSs X W sts (fun ρ => g (freeze i ρ)) := h.weak fun Dn σ H ⟨F0, H0, ρ, F, o, z, e, ho⟩ => by
  obtain ⟨F', z'⟩ := z.frz i
  exact ⟨F0, H0, _, F', o, z', e, ho⟩
theorem ds_frz (i : Nat) (h : DS X W st g) : DS X W st (fun ρ => g (freeze i ρ)) := h.weak fun Dn σ H ⟨F0, H0, ρ, F, o, z, e, ho⟩ => by
  obtain ⟨F', z'⟩ := z.frz i
  exact ⟨F0, H0, _, F', o, z', e, ho⟩
end

/-! ### functions -/
def startE (N : Nat) (ds : List D) : Env := ds.map (fun d => some (.d d)) ++ List.replicate (N - ds.length) none
def endO : Out → R Ret
  | .nx _ => .ok (.val .non)
  | .rt r => .ok r
  | .ex c _ => .err c
  | _ => .stuck
def runD (N n : Nat) (g : Env → Option Out) (ds : List D) : R Ret := if ds.length = n then (R.of (g (startE N ds))).bind endO else .stuck
theorem sl_start {K : KF} {F H : Hp} {N : List Str} {vs : List V} {ds : List D} (s : Same F H) (r : RepL K F vs ds) : SL K F H (startE N.length ds) (L2.start N vs) F H := by
  refine ⟨Grow.refl s, by simp [startE, L2.start, r.len], fun i t e => ?_, fun i j t u a hij e1 e2 o1 o2 => ?_⟩
  · unfold startE at e
    by_cases hi : i < ds.length
    · rw [List.getElem?_append_left (by simpa using hi), List.getElem?_map] at e
      cases q : ds[i]? with
      | none => rw [q] at e; cases e
      | some d =>
        rw [q] at e
        cases e
        obtain ⟨v, hv, rv⟩ := r.get q
        refine ⟨v, ?_, rv⟩
        unfold L2.start
        rw [List.getElem?_append_left (by simpa [r.len] using hi), List.getElem?_map, hv]; rfl
    · rw [List.getElem?_append_right (by simpa using hi), List.getElem?_replicate] at e
      split at e <;> cases e
  · unfold startE at e1
    by_cases hi : i < ds.length
    · rw [List.getElem?_append_left (by simpa using hi), List.getElem?_map] at e1
      cases q : ds[i]? with
      | none => rw [q] at e1; cases e1
      | some d => rw [q] at e1; cases e1; cases o1
    · rw [List.getElem?_append_right (by simpa using hi), List.getElem?_replicate] at e1
      split at e1 <;> cases e1
section
variable {P : Program} {w : World} {K : KF} {mg : Str → Option Value} {base : Heap}
/-- THE RULE for a def: its body over data -/
theorem fn_ok {x qual : Str} {st : Stmt} {f : Addr} {fd : FuncData} {N ps : List Str} {k n : Nat} {g : Env → Option Out} (F : Fun K x qual st f fd) (Sc : FnScope N ps (defScope st)) (hn : ps.length = n)
    (hbody : ∀ (cdv : Value) (A : Around) (outer : List PySem.Env) (s : Shared) (H : Hp) (E : XK), Room k (A.deeper (envOfC qual (defScope st) s.heap.objs.size f cdv)) →
      DSs (cxOf (L2.CX P w) P w K mg base N qual (defScope st) f cdv A outer s H E) (wish mg fun cls d _ H => E cls d H) (defBody st) g) :
    FnOk P w K mg base (L2.CX P w) (k + 1) f fd ps (spD K mg n (runD N.length n g)) := by
  refine F.okX Sc (fun vs H Q E h => by rw [h.1, hn]) fun cdv A outer s H vs Q E hr h => ⟨_, hbody cdv A outer s H E hr, ?_⟩
  obtain ⟨hl, Fz, ds, sm, r, hp⟩ := h
  unfold runD at hp
  have hl2 : ds.length = n := by rw [← r.len]; exact hl
  rw [if_pos hl2] at hp
  cases q : g (startE N.length ds) with
  | none => rw [q] at hp; exact hp.elim
  | some o =>
    rw [q] at hp
    have hp : RetPost K mg Fz H Q E (endO o) := hp
    refine ⟨Fz, H, _, Fz, o, sl_start sm r, q, ?_⟩
    cases o with
    | nx ρ => exact fun σ F1 H1 z => hp .non F1 H1 z.grow .non
    | rt r =>
      cases r with
      | val d => exact fun v F1 H1 g r => hp v F1 H1 g r
      | frl xs => exact fun v F1 H1 g r => hp v F1 H1 g r
    | bk ρ => exact hp.elim
    | ct ρ => exact hp.elim
    | ex c ρ => exact fun σ F1 H1 z C hC => hp F1 H1 C z.grow hC
end
end DL
/-! DL9: the words in which a function's mirror is written; what stands of a def. -/
namespace DL
open PySem PySem.Spec PyProof.Rows L2

abbrev eC (d : D) : Env → R D := fun _ => .ok d
abbrev eOp (g : D → D → Option D) (a b : Env → R D) : Env → R D := fun ρ => (a ρ).bind fun x => (b ρ).bind fun y => R.of (g x y)
abbrev lOp (g : D → D → Option (List D)) (a b : Env → R D) : Env → R (List D) := fun ρ => (a ρ).bind fun x => (b ρ).bind fun y => R.of (g x y)
abbrev eCmp (g : D → D → Option Bool) (a b : Env → R D) : Env → R D := fun ρ => (a ρ).bind fun x => (b ρ).bind fun y => R.of ((g x y).map .bl)
abbrev bCmp (g : D → D → Option Bool) (a b : Env → R D) : Env → R Bool := fun ρ => (a ρ).bind fun x => (b ρ).bind fun y => R.of (g x y)
abbrev eNotInD (a b : Env → R D) : Env → R D := fun ρ => (a ρ).bind fun y => (b ρ).bind fun x => R.of ((cInD y x).map fun k => .bl (!k))
abbrev eUn (g : D → Option D) (a : Env → R D) : Env → R D := fun ρ => (a ρ).bind fun x => R.of (g x)
abbrev lUn (g : D → Option (List D)) (a : Env → R D) : Env → R (List D) := fun ρ => (a ρ).bind fun x => R.of (g x)
abbrev eIsi (n : String) (a : Env → R D) : Env → R D := fun ρ => (a ρ).bind fun y => R.of ((isB1 n y).map .bl)
abbrev eIsi2 (n m : String) (a : Env → R D) : Env → R D := fun ρ => (a ρ).bind fun y => R.of ((isBs [n, m] y).map .bl)
abbrev eIf {α : Type} (c : Env → R Bool) (a b : Env → R α) : Env → R α := fun ρ => (c ρ).bind fun k => if k = true then a ρ else b ρ
abbrev eAnd (a b : Env → R D) : Env → R D := fun ρ => (a ρ).bind fun x => (R.of (oBl x)).bind fun k => if k = true then b ρ else .ok (.bl false)
abbrev eOr (a b : Env → R D) : Env → R D := fun ρ => (a ρ).bind fun x => (R.of (oBl x)).bind fun k => if k = true then .ok (.bl true) else b ρ
abbrev bAnd (a b : Env → R Bool) : Env → R Bool := fun ρ => (a ρ).bind fun k => if k = true then b ρ else .ok false
abbrev bOr (a b : Env → R Bool) : Env → R Bool := fun ρ => (a ρ).bind fun k => if k = true then .ok true else b ρ
abbrev bNot (a : Env → R Bool) : Env → R Bool := fun ρ => (a ρ).bind fun k => .ok (!k)
abbrev bVal (a : Env → R D) : Env → R Bool := fun ρ => (a ρ).bind fun x => R.of (oBl x)
abbrev eChain (g g' : D → D → Option Bool) (a b c : Env → R D) : Env → R D := fun ρ => (a ρ).bind fun x => (b ρ).bind fun y => (R.of (g x y)).bind fun k => if k = true then (c ρ).bind fun w => R.of ((g' y w).map .bl) else .ok (.bl false)
abbrev bChain (g g' : D → D → Option Bool) (a b c : Env → R D) : Env → R Bool := fun ρ => (a ρ).bind fun x => (b ρ).bind fun y => (R.of (g x y)).bind fun k => if k = true then (c ρ).bind fun w => R.of (g' y w) else .ok false
abbrev pNone : Env → R (Option Int) := fun _ => .ok none
abbrev pSome (a : Env → R D) : Env → R (Option Int) := fun ρ => (a ρ).bind fun x => R.of (oI x)
abbrev lSl (a : Env → R D) (l h : Env → R (Option Int)) : Env → R (List D) := fun ρ => (a ρ).bind fun x => (l ρ).bind fun l => (h ρ).bind fun u => R.of (oSlL x l u)
abbrev eSlT (a : Env → R D) (l h : Env → R (Option Int)) : Env → R D := fun ρ => (a ρ).bind fun x => (l ρ).bind fun l => (h ρ).bind fun u => R.of (oSlT x l u)
def oSlR (x : D) (l u : Option Int) : Option D := match oSlL x l u with
  | some xs => some (.lst xs)
  | none => oSlT x l u
abbrev eSlR (a : Env → R D) (l h : Env → R (Option Int)) : Env → R D := fun ρ => (a ρ).bind fun x => (l ρ).bind fun l => (h ρ).bind fun u => R.of (oSlR x l u)
abbrev aNil : Env → R (List D) := fun _ => .ok []
abbrev aCons (a : Env → R D) (r : Env → R (List D)) : Env → R (List D) := fun ρ => (a ρ).bind fun x => (r ρ).bind fun xs => .ok (x :: xs)
abbrev eTup (r : Env → R (List D)) : Env → R D := fun ρ => (r ρ).bind fun xs => R.of ((mkL xs).map .tup)
abbrev lLst (r : Env → R (List D)) : Env → R (List D) := fun ρ => (r ρ).bind fun xs => R.of (mkL xs)
abbrev eFz (l : Env → R (List D)) : Env → R D := fun ρ => (l ρ).map .lst
abbrev eAttr (f : Str) (a : Env → R D) : Env → R D := fun ρ => (a ρ).bind fun x => R.of (oAttr f x)
abbrev eCall (m : List D → R Ret) (r : Env → R (List D)) : Env → R D := fun ρ => (r ρ).bind fun ds => (m ds).map Ret.v
abbrev lCall (m : List D → R Ret) (r : Env → R (List D)) : Env → R (List D) := fun ρ => (r ρ).bind fun ds => (m ds).bind fun r => R.of r.f
abbrev lLc (vs : List Nat) (gt : D → Env → Option Env) (tt : Env → R Bool) (fe : Env → R D) (fi : Env → R (List D)) : Env → R (List D) := fun ρ => (fi ρ).bind fun items => R.of (lcF vs gt tt fe ρ items)
abbrev bYes : Env → R Bool := fun _ => .ok true
abbrev gsNil : List D → Env → Option Env := fun ds ρ => match ds with | [] => some ρ | _ => none
abbrev gsCons (g1 : D → Env → Option Env) (gs : List D → Env → Option Env) : List D → Env → Option Env := fun ds ρ => match ds with | [] => none | d :: r => (g1 d ρ).bind (gs r)
abbrev gT (n : Nat) (gs : List D → Env → Option Env) : D → Env → Option Env := fun d ρ => (rowOf d).bind fun xs => if xs.length = n then gs xs ρ else none
abbrev iSeq (a : Env → R D) : Env → R (List D) := fun ρ => (a ρ).bind fun y => R.of (oItems y)
abbrev iR1 (a : Env → R D) : Env → R (List D) := fun ρ => (a ρ).bind fun y => R.of (oRg1 y)
abbrev iR2 (a b : Env → R D) : Env → R (List D) := fun ρ => (a ρ).bind fun x => (b ρ).bind fun y => R.of (oRg2 x y)
abbrev sNx : Env → Option Out := fun ρ => some (.nx ρ)
abbrev sSeq (a b : Env → Option Out) : Env → Option Out := fun ρ => seqO (a ρ) b
abbrev sSet (i : Nat) (f : Env → R D) : Env → Option Out := fun ρ => withR (f ρ) ρ fun d => some (.nx (ρ.set i (some (.d d))))
abbrev sSetF (i : Nat) (f : Env → R (List D)) : Env → Option Out := fun ρ => withR (f ρ) ρ fun d => some (.nx (ρ.set i (some (.ml d))))
abbrev sSetFz (i : Nat) (f : Env → R (List D)) : Env → Option Out := fun ρ => withR (f ρ) ρ fun d => some (.nx (ρ.set i (some (.d (.lst d)))))
abbrev sAsg (f : Env → R D) (gt : D → Env → Option Env) : Env → Option Out := fun ρ => withR (f ρ) ρ fun d => (gt d ρ).map .nx
abbrev sExpr (f : Env → R D) : Env → Option Out := fun ρ => withR (f ρ) ρ fun _ => some (.nx ρ)
abbrev sRet (f : Env → R D) : Env → Option Out := fun ρ => withR (f ρ) ρ fun d => some (.rt (.val d))
abbrev sRetF (f : Env → R (List D)) : Env → Option Out := fun ρ => withR (f ρ) ρ fun d => some (.rt (.frl d))
abbrev sRetOwn (i : Nat) : Env → Option Out := fun ρ => match ρ[i]? with | some (some (.ml xs)) => some (.rt (.frl xs)) | _ => none
abbrev sRetN : Env → Option Out := fun _ => some (.rt (.val .non))
abbrev sIf (c : Env → R Bool) (a b : Env → Option Out) : Env → Option Out := fun ρ => withR (c ρ) ρ fun k => if k = true then a ρ else b ρ
abbrev sApp (i : Nat) (f : Env → R D) : Env → Option Out := fun ρ => (slotL i ρ).bind fun xs => withR (f ρ) ρ fun d => if xs.length < 16777216 then some (.nx (ρ.set i (some (.ml (xs ++ [d]))))) else none
abbrev sIns (i : Nat) (f f2 : Env → R D) : Env → Option Out := fun ρ => (slotL i ρ).bind fun xs => withR (f ρ) ρ fun j => withR (f2 ρ) ρ fun d => (insD xs j d).map fun ys => .nx (ρ.set i (some (.ml ys)))
abbrev sAug (i : Nat) (f : Env → R D) : Env → Option Out := fun ρ => (slotD i ρ).bind fun x => withR (f ρ) ρ fun y => (oAug x y).map fun d => .nx (ρ.set i (some (.d d)))
abbrev sFor (fi : Env → R (List D)) (gt : D → Env → Option Env) (g : Env → Option Out) : Env → Option Out := fun ρ => withR (fi ρ) ρ fun items => forD gt g items ρ
abbrev sFrz (i : Nat) (g : Env → Option Out) : Env → Option Out := fun ρ => g (freeze i ρ)
abbrev sNever : Env → Option Out := fun _ => none

section
variable {X : Cx} {W : Wish} {st : Stmt} {pos : Pos}
/-- name = a new list that nothing will change -/
theorem ds_setFz {i : Nat} {f : Env → R (List D)} (h : PS X st (tAsg (tG X.K W (rF X.K) f) (gName i))) : DS X W st (sSetFz i f) := h.weak fun D σ H ⟨F0, H0, ρ, F, o, z, e, ho⟩ =>
  tS_expr z e ho fun v xs F1 H1 z1 g1 r e => by
    cases e
    obtain ⟨a, vs, rfl, h0, hf, hh, rl⟩ := r
    have up : Same F1 (upd F1 a (.lst vs)) := Same.add hf
    have gr : Grow F0 H0 (upd F1 a (.lst vs)) H1 := ⟨z1.grow.hh, z1.grow.ff.trans up, fun b o e => by
      by_cases hb : b = a
      · subst hb; rw [upd_same] at e; cases e; exact hh
      · rw [upd_ne hb] at e; exact z1.grow.fh b o e, fun b hb e => by
      rw [upd_ne (fun q => hb (by rw [q]; exact z.grow.hh.free h0))]; exact z1.grow.nn b hb e⟩
    have z2 : SL X.K F0 H0 ρ σ (upd F1 a (.lst vs)) H1 := by
      refine ⟨gr, z1.len, fun j t e => ?_, z1.apart⟩
      obtain ⟨w, e1, ok⟩ := z1.slot j t e
      refine ⟨w, e1, ?_⟩
      cases t with
      | d x => exact Rep.mono (show Rep X.K F1 w x from ok) up
      | ml ys =>
        obtain ⟨b, us, eb, k0, kf, kh, r⟩ := ok
        exact ⟨b, us, eb, k0, by rw [upd_ne (fun q => apart_new z h0 j _ e rfl (by rw [e1, eb, q]))]; exact kf, kh, r.mono up⟩
      | md ys =>
        obtain ⟨b, us, eb, k0, kf, kh, r⟩ := ok
        exact ⟨b, us, eb, k0, by rw [upd_ne (fun q => apart_new z h0 j _ e rfl (by rw [e1, eb, q]))]; exact kf, kh, r.mono up⟩
      | ob a0 n all fs =>
        obtain ⟨b, C, dx, us, eb, k0, kf, kh, r, c⟩ := ok
        exact ⟨b, C, dx, us, eb, k0, by rw [upd_ne (fun q => apart_new z h0 j _ e rfl (by rw [e1, eb, q]))]; exact kf, kh, r.mono up, c⟩
      | xc a9 c9 => exact ok
    exact ho _ _ H1 (z2.setD i (.lst upd_same (rl.mono up)))
theorem dv_globI {x : Str} {n : Int} (h : ∃ t, X.mg x = some (.int n t)) (hg : Gl X x) (hd : (x == ("__debug__" : Str)) = false := by decide) : DV X W (.Name x pos) (eC (.int n)) := by
  obtain ⟨t, h⟩ := h
  exact dv_c (v := .int n) (pe_glob hg h ⟨t, rfl⟩ hd) fun _ => .int _
theorem dv_globS {x : Str} {n : Str} (h : ∃ t, X.mg x = some (.str n t)) (hg : Gl X x) (hd : (x == ("__debug__" : Str)) = false := by decide) : DV X W (.Name x pos) (eC (.str n)) := by
  obtain ⟨t, h⟩ := h
  exact dv_c (v := .str n) (pe_glob hg h ⟨t, rfl⟩ hd) fun _ => .str _
end
/-- a def of the text stands under its name -/
def Has (K : KF) (mg : Str → Option Value) (x : Str) (st : Stmt) (ps : List Str) : Prop := ∃ f fd, mg x = some (.ref f) ∧ Fun K x x st f fd ∧ Binds K fd ps []
/-- the def under the name x keeps the mirror m, by at most level k -/
def Keeps (P : Program) (w : World) (K : KF) (mg : Str → Option Value) (base : Heap) (x : Str) (k : Nat) (ps : List Str) (n : Nat) (m : List D → R Ret) : Prop :=
  ∃ f fd, mg x = some (.ref f) ∧ PySem.W.keepIn K (.ref f) = true ∧ Binds K fd ps [] ∧ FnOk P w K mg base (L2.CX P w) k f fd ps (spD K mg n m)
section
variable {P : Program} {w : World} {K : KF} {mg : Str → Option Value} {base : Heap}
theorem keeps_of {x : Str} {st : Stmt} {N ps : List Str} {k n : Nat} {g : Env → Option Out} (h : Has K mg x st ps) (Sc : FnScope N ps (defScope st)) (hn : ps.length = n)
    (hbody : ∀ (f : Addr) (cdv : Value) (A : Around) (outer : List PySem.Env) (s : Shared) (H : Hp) (E : XK), Room k (A.deeper (envOfC x (defScope st) s.heap.objs.size f cdv)) →
      DSs (cxOf (L2.CX P w) P w K mg base N x (defScope st) f cdv A outer s H E) (wish mg fun cls d _ H => E cls d H) (defBody st) g) :
    Keeps P w K mg base x (k + 1) ps n (runD N.length n g) := by
  obtain ⟨f, fd, h1, h2, h3⟩ := h
  exact ⟨f, fd, h1, h2.kp, h3, fn_ok h2 Sc hn (hbody f)⟩
end
section
variable {X : Cx} {W' : WX} {e : Expr} {es : List Expr} {fs : Env → R (List D)} {m : List D → R Ret} {k n : Nat} {ps : List Str} {x : Str} {p pos : Pos}
theorem dv_callK (G : Keeps X.prog X.w X.K X.mg X.base x k ps n m) (hr : Room k X.A) (tk : Takes X W') (hg : Gl X x)
    (ha : DA X (wish X.mg W') (e :: es) fs) (hfs : AL fs n) (hdb : (x == ("__debug__" : Str)) = false := by decide) (he : starEach (e :: es) X.env = (false, eval e X.env) :: starEach es X.env := by rfl) (hpl : (backTo pos (starEach es X.env)).any (·.1) = false := by rfl) :
    DV X (wish X.mg W') (.Call (.Name x p) (e :: es) [] pos) (eCall m fs) := by
  obtain ⟨f, fd, h1, h2, h3, h4⟩ := G
  exact dv_call h4 hr tk hg h1 h2 h3 ha hfs hdb he hpl
theorem df_callK (G : Keeps X.prog X.w X.K X.mg X.base x k ps n m) (hr : Room k X.A) (tk : Takes X W') (hg : Gl X x)
    (ha : DA X (wish X.mg W') (e :: es) fs) (hfs : AL fs n) (hdb : (x == ("__debug__" : Str)) = false := by decide) (he : starEach (e :: es) X.env = (false, eval e X.env) :: starEach es X.env := by rfl) (hpl : (backTo pos (starEach es X.env)).any (·.1) = false := by rfl) :
    DF X (wish X.mg W') (.Call (.Name x p) (e :: es) [] pos) (lCall m fs) := by
  obtain ⟨f, fd, h1, h2, h3, h4⟩ := G
  exact df_call h4 hr tk hg h1 h2 h3 ha hfs hdb he hpl
end
end DL
/-! DL10: zip of two and three, enumerate, over lists and tuples alike. -/
namespace DL
open PySem PySem.Spec PyProof.Rows L2

/-- a list (true) or a tuple (false) -/
def SqG (K : KF) (H : Hp) (b : Bool) (a : Addr) (xs : List V) : Prop := match b with
  | true => SqL K H a xs
  | false => SqT K H a xs
def IsG (h : Heap) (b : Bool) (a : Addr) (its : Array Value) : Prop := match b with
  | true => h.IsList a its
  | false => h.IsTuple a its
def ItG (h : Heap) (b : Bool) (it a : Addr) (i : Nat) : Prop := match b with
  | true => h.IsListIter it a i
  | false => h.IsTupleIter it a i
def obG (b : Bool) (a : Addr) : Obj := match b with
  | true => { cls := .type "list_iterator", data := .fields #[.ref a, .int 0 0] }
  | false => { cls := .type "tuple_iterator", data := .fields #[.ref a, .int 0 0] }
theorem begins_G (b : Bool) (a : Addr) (its : Array Value) : Begins (.ref a) (obG b a) fun h => IsG h b a its := match b with
  | true => begins_list a its
  | false => begins_tuple a its
theorem draws_G {prog : Program} {w : World} {A : Around} (hh : A.handled = none) (b : Bool) (it a : Addr) (hne : a ≠ it) (its : Array Value) :
    Draws prog w A it [it, a] its.size (fun i v => its[i]? = some v) (fun i h => ItG h b it a i ∧ IsG h b a its) := match b with
  | true => Draws.list hh it a hne its
  | false => Draws.tuple hh it a hne its
theorem ItG.obj {h : Heap} {b : Bool} {it a : Addr} {i : Nat} (x : ItG h b it a i) : ∃ o, h.get? it = some o ∧ ∀ v, o.data ≠ .cell v := by
  cases b with
  | true => obtain ⟨o, e, _, d⟩ := (show h.IsListIter it a i from x); exact ⟨o, e, fun v q => by rw [d] at q; cases q⟩
  | false => obtain ⟨o, e, _, d⟩ := (show h.IsTupleIter it a i from x); exact ⟨o, e, fun v q => by rw [d] at q; cases q⟩
theorem ItG.at {h h' : Heap} {b : Bool} {it a : Addr} {i : Nat} (x : ItG h b it a i) (k : ∀ o, h.get? it = some o → h'.get? it = some o) : ItG h' b it a i := by
  cases b with
  | true => exact Heap.IsListIter.at (show h.IsListIter it a i from x) k
  | false => exact Heap.IsTupleIter.at (show h.IsTupleIter it a i from x) k
theorem ItG.new {h : Heap} {b : Bool} {it a : Addr} (e : h.get? it = some (obG b a)) : ItG h b it a 0 := by
  cases b with
  | true => exact ⟨_, e, rfl, rfl⟩
  | false => exact ⟨_, e, rfl, rfl⟩
section
variable {X : Cx} {pins : List (Addr × Obj)} {σ : L2.St} {H : Hp} {s : Shared} {a : Addr} {b : Bool} {xs ys : List V}
theorem inv_G (I : Inv X pins σ H s) (h : SqG X.K H b a xs) : ∃ its : List Value, Vals xs its ∧ IsG s.heap b a its.toArray := by
  cases b with
  | true =>
    obtain ⟨its, r, p, _⟩ := I.list (show SqL X.K H a xs from h)
    exact ⟨its, r, p.isList⟩
  | false =>
    obtain ⟨its, r, p, _⟩ := I.tuple (show SqT X.K H a xs from h)
    exact ⟨its, r, p⟩
theorem inv_G_inj (I : Inv X pins σ H s) (h : SqG X.K H b a xs) (h' : SqG X.K H b a ys) : xs = ys := by
  cases b with
  | true => exact I.list_inj (show SqL X.K H a xs from h) h'
  | false => exact I.tuple_inj (show SqT X.K H a xs from h) h'
theorem IsG.lt {h : Heap} {its : Array Value} (x : IsG h b a its) : a < h.objs.size := by
  cases b with
  | true => obtain ⟨o, e, _⟩ := (show h.IsList a its from x); exact Heap.lt_size e
  | false => obtain ⟨o, e, _⟩ := (show h.IsTuple a its from x); exact Heap.lt_size e
theorem SqG.up {K : KF} {F H : Hp} (s : Same F H) (h : SqG K F b a xs) : SqG K H b a xs := by
  cases b with
  | true => exact s.seq (show SqL K F a xs from h)
  | false =>
    rcases (show SqT K F a xs from h) with (h | ⟨o, h⟩) | h
    · exact .inl (.inl (s _ _ h))
    · exact .inl (.inr ⟨o, s _ _ h⟩)
    · exact .inr h
end

/-! ### zip of two -/
def Itz2 (K : KF) (b1 : Bool) (a1 : Addr) (b2 : Bool) (a2 : Addr) : It :=
  ⟨fun i H => ∃ (xs ys : List V) (x y : V), SqG K H b1 a1 xs ∧ SqG K H b2 a2 ys ∧ xs[i]? = some x ∧ ys[i]? = some y,
    fun i H v H' => ∃ T x y, v = .ref T ∧ H T = none ∧ H' = upd H T (.tup [x, y]) ∧ (∀ xs, SqG K H b1 a1 xs → xs[i]? = some x) ∧ ∀ ys, SqG K H b2 a2 ys → ys[i]? = some y,
    fun i H => ∃ xs ys : List V, SqG K H b1 a1 xs ∧ SqG K H b2 a2 ys ∧ i ≤ xs.length ∧ i ≤ ys.length ∧ (i = xs.length ∨ i = ys.length)⟩
structure Far2 (z TI TO i1 i2 a1 a2 : Addr) : Prop where
  sep : ZipSep2 z TI TO i1 i2 [i1, a1] [i2, a2]
  a1i : a1 ≠ i1
  a2i : a2 ≠ i2
theorem lt_ne {a b : Nat} (h : a < b) : a ≠ b := Nat.ne_of_lt h
theorem gt_ne {a b : Nat} (h : b < a) : a ≠ b := Nat.ne_of_gt h
theorem out2 {x a b : Nat} (h1 : x ≠ a) (h2 : x ≠ b) : x ∉ [a, b] := fun h => by
  rcases List.mem_cons.mp h with h | h
  · exact h1 h
  · exact h2 (List.mem_singleton.mp h)
theorem far2 (n a1 a2 : Nat) (h1 : a1 < n) (h2 : a2 < n) : Far2 (n + 4) (n + 2) (n + 3) n (n + 1) a1 a2 :=
  ⟨⟨lt_ne (by omega), lt_ne (by omega), lt_ne (by omega), gt_ne (by omega), List.mem_cons_self, out2 (gt_ne (by omega)) (gt_ne (by omega)), out2 (gt_ne (by omega)) (gt_ne (by omega)), gt_ne (by omega), List.mem_cons_self,
    out2 (gt_ne (by omega)) (gt_ne (by omega)), out2 (gt_ne (by omega)) (gt_ne (by omega)), out2 (lt_ne (by omega)) (gt_ne (by omega)), out2 (gt_ne (by omega)) (gt_ne (by omega))⟩, lt_ne (by omega), lt_ne (by omega)⟩
theorem turn_zip2 {P : Program} {w : World} {K : KF} {elts : List Expr} {kk : Nat} {tpos : Pos} {b1 b2 : Bool} {a1 a2 z TI TO i1 i2 : Addr} (D : Far2 z TI TO i1 i2 a1 a2) :
    Turn P w K (.Tuple elts kk tpos) (Itz2 K b1 a1 b2 a2) [z, TI, TO, i1, i2] z (fun i h => IsZip h z TI TO .none ∧ IsTupOf2 h TI (.ref i1) (.ref i2) ∧ (∃ x y, IsTupOf2 h TO x y) ∧ ItG h b1 i1 a1 i ∧ ItG h b2 i2 a2 i) where
  mem := by simp
  obj := fun i h st c hc => by
    obtain ⟨hz, hTI, ⟨x, y, hTO⟩, h1, h2⟩ := st
    have e' : c = z ∨ c = TI ∨ c = TO ∨ c = i1 ∨ c = i2 := by simpa using hc
    rcases e' with rfl | rfl | rfl | rfl | rfl
    · exact ⟨_, hz, fun v q => nomatch q⟩
    · exact ⟨_, hTI, fun v q => nomatch q⟩
    · exact ⟨_, hTO, fun v q => nomatch q⟩
    · exact h1.obj
    · exact h2.obj
  keep := fun i h h' st k => by
    obtain ⟨hz, hTI, ⟨x, y, hTO⟩, h1, h2⟩ := st
    exact ⟨k z (by simp) _ hz, k TI (by simp) _ hTI, ⟨x, y, k TO (by simp) _ hTO⟩, h1.at fun o q => k i1 (by simp) o q, h2.at fun o q => k i2 (by simp) o q⟩
  item := by
    intro X hP hw hK hc i pins s σ H E I hf st hg
    subst hP hw hK
    obtain ⟨hz, hTI, ⟨x0, y0, hTO⟩, h1, h2⟩ := st
    obtain ⟨xs, ys, x, y, hqx, hqy, hx, hy⟩ := hg
    obtain ⟨its, rv, p⟩ := inv_G I hqx
    obtain ⟨its2, rv2, p2⟩ := inv_G I hqy
    have l1 := rv.length
    have l2 := rv2.length
    have lx := (List.getElem?_eq_some_iff.mp hx).1
    have ly := (List.getElem?_eq_some_iff.mp hy).1
    have hzl : z < s.heap.objs.size := Heap.lt_size hz
    have hh : X.A.in1.handled = none := by simpa using I.ok.hd hc
    refine wpAny_pyNext_zipD2_item D.sep (draws_G hh b1 i1 a1 D.a1i its.toArray) (draws_G hh b2 i2 a2 D.a2i its2.toArray) hz hTI hTO ⟨h1, p⟩ ⟨h2, p2⟩ (by simp; omega) (by simp; omega) fun u u2 h' tk hu hu2 z' TO' st1 st2 hT hsz hk => ?_
    refine ⟨_, rfl, wpAny_letOwnedTupleGo_zip (s := { s with heap := h', toks := tk }) z' fun h'' z'' sb => ?_⟩
    obtain ⟨w1, hw1, ru⟩ := rv.get hx
    obtain ⟨w2, hw2, ru2⟩ := rv2.get hy
    have e1 : u = w1 := by
      have q : its[i]? = some u := by simpa using hu
      rw [hw1] at q; exact (Option.some.inj q).symm
    have e2 : u2 = w2 := by
      have q : its2[i]? = some u2 := by simpa using hu2
      rw [hw2] at q; exact (Option.some.inj q).symm
    subst e1 e2
    have hT2 : h''.get? s.heap.objs.size = some { cls := .type "tuple", data := .seq #[u, u2] } := (sb.2 _ (Nat.ne_of_gt hzl)).trans hT
    have new : ObjOk X.prog X.w (upd H s.heap.objs.size (.tup [x, y])) h'' s.heap.objs.size (.tup [x, y]) :=
      ⟨by rw [sizeLine_eq]; show 2 ≤ 16777216; decide, [u, u2], .cons ru (.cons ru2 .nil), ⟨_, hT2, rfl, _, rfl⟩⟩
    have I1 : Inv X pins σ (upd H s.heap.objs.size (.tup [x, y])) { s with heap := h'', toks := tk } :=
      I.turnedNew (t' := tk) (ch := [z, TI, TO, i1, i2]) (fun c o hb q => (sb.2 c (fun q' => hb (by simp [q']))).trans (hk c o (fun q' => hb (by simp [q'])) (fun q' => hb (by simp [q'])) (fun q' => hb (by simp [q'])) (fun q' => hb (by simp [q'])) q)) hf (Nat.le_refl _) new
    refine ⟨.ref s.heap.objs.size, _, I1, rfl, ⟨_, x, y, rfl, I.hok.fresh (Nat.le_refl _), rfl, fun l hl => by rw [inv_G_inj I hl hqx]; exact hx, fun l hl => by rw [inv_G_inj I hl hqy]; exact hy⟩, ⟨z'', ?_, ⟨u, u2, ?_⟩, ?_, ?_⟩, fun c hcm => ?_⟩
    · exact (sb.2 _ D.sep.TIz).trans (hk _ _ D.sep.TIz D.sep.TITO D.sep.TIi1 D.sep.TIi2 hTI)
    · exact (sb.2 _ D.sep.TOz).trans TO'
    · exact st1.1.at fun o q => (sb.2 _ (Ne.symm D.sep.zi1)).trans q
    · exact st2.1.at fun o q => (sb.2 _ (Ne.symm D.sep.zi2)).trans q
    · have hlt : c < s.heap.objs.size := by
        have e' : c = z ∨ c = TI ∨ c = TO ∨ c = i1 ∨ c = i2 := by simpa using hcm
        rcases e' with rfl | rfl | rfl | rfl | rfl
        · exact hzl
        · exact Heap.lt_size hTI
        · exact Heap.lt_size hTO
        · obtain ⟨_, e1, _⟩ := h1.obj; exact Heap.lt_size e1
        · obtain ⟨_, e2, _⟩ := h2.obj; exact Heap.lt_size e2
      rw [upd_ne (Nat.ne_of_lt hlt)]
      exact (hf c hcm).1
  done := by
    intro X hP hw hK hc i pins s σ H E I hf st hg
    subst hP hw hK
    obtain ⟨hz, hTI, ⟨x0, y0, hTO⟩, h1, h2⟩ := st
    obtain ⟨xs, ys, hqx, hqy, le1, le2, hend⟩ := hg
    obtain ⟨its, rv, p⟩ := inv_G I hqx
    obtain ⟨its2, rv2, p2⟩ := inv_G I hqy
    have l1 := rv.length
    have l2 := rv2.length
    have hh : X.A.in1.handled = none := by simpa using I.ok.hd hc
    refine wpAny_pyNext_zipD2_end D.sep (draws_G hh b1 i1 a1 D.a1i its.toArray) (draws_G hh b2 i2 a2 D.a2i its2.toArray) hz hTI hTO ⟨h1, p⟩ ⟨h2, p2⟩ (by simp; omega) (by simp; omega) (by simp; omega) fun h' tk hk => ?_
    exact ⟨rfl, I.turnedL (t' := tk) (ch := [z, TI, TO, i1, i2]) (fun c o hb q =>
      hk c o (fun q' => hb (by simp [q'])) (fun q' => hb (by simp [q'])) (fun q' => hb (by simp [q'])) (fun q' => hb (by simp [q'])) q) hf⟩
  self := fun A i s Q E st h => wpAny_pyIter_zip st.1 h
theorem walk_zip2 {K : KF} {b1 b2 : Bool} {a1 a2 : Addr} {xs ys : List V} {n : Nat} (hn : n = min xs.length ys.length) : Walk (Itz2 K b1 a1 b2 a2) n (fun H => SqG K H b1 a1 xs ∧ SqG K H b2 a2 ys) (YPair (fun i => xs[i]?) (fun i => ys[i]?)) := by
  subst hn
  refine ⟨fun i _ hi q => ?_, fun _ q => ⟨xs, ys, q.1, q.2, by omega, by omega, by omega⟩, fun i H v H' _ q y => ?_⟩
  · have h1 : i < xs.length := by omega
    have h2 : i < ys.length := by omega
    exact ⟨xs, ys, xs[i], ys[i], q.1, q.2, by simp [h1], by simp [h2]⟩
  · obtain ⟨T, x, z, h1, h2, h3, h4, h5⟩ := y
    exact ⟨T, x, z, h1, h2, h3, h4 xs q.1, h5 ys q.2⟩
def iZ2 (K : KF) (ta : TA) : TI := fun σ H R => ta σ H fun vs H1 => ∃ b1 a1 b2 a2 xs ys, vs = [.ref a1, .ref a2] ∧ SqG K H1 b1 a1 xs ∧ SqG K H1 b2 a2 ys ∧ R (Itz2 K b1 a1 b2 a2) H1
theorem pi_zip2 {X : Cx} {e e2 : Expr} {ta : TA} {p pos tpos : Pos} {elts : List Expr} {kk : Nat} (hg : Gl X "zip") (hm : X.mg "zip" = none) (ha : PA X [e, e2] ta)
    (hs : starEach [e, e2] X.env = (false, eval e X.env) :: starEach [e2] X.env := by rfl) (hpl : (backTo pos (starEach [e2] X.env)).any (·.1) = false := by rfl) :
    PI X (.Tuple elts kk tpos) (.Call (.Name "zip" p) [e, e2] [] pos) (iZ2 X.K ta) := by
  refine ⟨fun pins s σ H R I h => ?_⟩
  refine Call_ (ld_blt I hg hm PyProof.Rows.boot_zip (PyProof.Rows.callWith_type1 (thn (ha.run pos pins s σ H _ I h) fun us s1 ⟨vs, H1, I1, r1, q1⟩ => ?_) hs hpl))
  obtain ⟨b1, a1, b2, a2, xs, ys, ex, hqx, hqy, q⟩ := q1
  subst ex
  cases r1 with
  | cons r rr =>
    cases rr with
    | cons r' rr =>
      cases rr
      cases r
      cases r'
      obtain ⟨its, rv, p1⟩ := inv_G I1 hqx
      obtain ⟨its2, rv2, p2⟩ := inv_G I1 hqy
      refine zip_begins2 (begins_G b1 a1 its.toArray) (begins_G b2 a2 its2.toArray) p1 p2 fun h' hz hTI hTO h1 h2 hsz hk => wpAny_pyIter_zip hz ?_
      have I2 : Inv X pins σ H1 { s1 with heap := h' } := I1.kept (t' := s1.toks) hk
      refine ⟨s1.heap.objs.size + 4, [s1.heap.objs.size + 4, s1.heap.objs.size + 2, s1.heap.objs.size + 3, s1.heap.objs.size, s1.heap.objs.size + 1], _, _, H1, rfl, I2, turn_zip2 (far2 s1.heap.objs.size a1 a2 p1.lt p2.lt), ⟨hz, hTI, ⟨_, _, hTO⟩, ItG.new h1, ItG.new h2⟩, fun c hcm => ?_, q⟩
      have e' : c = s1.heap.objs.size + 4 ∨ c = s1.heap.objs.size + 2 ∨ c = s1.heap.objs.size + 3 ∨ c = s1.heap.objs.size ∨ c = s1.heap.objs.size + 1 := by simpa using hcm
      have hle : s1.heap.objs.size ≤ c := by
        rcases e' with z | z | z | z | z
        · rw [z]; exact Nat.le_add_right _ _
        · rw [z]; exact Nat.le_add_right _ _
        · rw [z]; exact Nat.le_add_right _ _
        · rw [z]; exact Nat.le_refl _
        · rw [z]; exact Nat.le_add_right _ _
      exact I1.fpOk hle (I1.hok.fresh hle)

/-! ### over data -/
def oSeq : D → Option (Bool × List D)
  | .lst xs => some (true, xs)
  | .tup xs => some (false, xs)
  | .scr ns => some (true, ns.map .int)
  | _ => none
def zip2 : List D → List D → List D
  | x :: xs, y :: ys => .tup [x, y] :: zip2 xs ys
  | _, _ => []
def oZip2 (x y : D) : Option (List D) := (oSeq x).bind fun p => (oSeq y).map fun q => zip2 p.2 q.2
abbrev iZip2 (a b : Env → R D) : Env → R (List D) := fun ρ => (a ρ).bind fun x => (b ρ).bind fun y => R.of (oZip2 x y)
theorem rep_sq {K : KF} {F : Hp} {v : V} {d : D} {b : Bool} {xs : List D} (r : Rep K F v d) (e : oSeq d = some (b, xs)) : ∃ a vs, v = .ref a ∧ SqG K F b a vs ∧ RepL K F vs xs := by
  unfold oSeq at e
  split at e
  · cases e
    cases r with | lst f r => exact ⟨_, _, rfl, SqL.of f, r⟩
  · cases e
    cases r with | tup f r => exact ⟨_, _, rfl, f.sq, r⟩
  · cases e
    cases r with | scr f => exact ⟨_, _, rfl, f, RepL.ofInts _⟩
  · cases e
theorem zip2_len : ∀ (xs ys : List D), (zip2 xs ys).length = min xs.length ys.length
  | [], _ => by simp [zip2]
  | _ :: _, [] => by simp [zip2]
  | x :: xs, y :: ys => by simp [zip2, zip2_len xs ys]
theorem zip2_at : ∀ {xs ys : List D} {i : Nat} {x y : D}, xs[i]? = some x → ys[i]? = some y → (zip2 xs ys)[i]? = some (.tup [x, y])
  | [], _, _, _, _, h, _ => by simp at h
  | _ :: _, [], _, _, _, _, h => by simp at h
  | x :: xs, y :: ys, 0, _, _, h, h' => by simp at h h'; simp [zip2, h, h']
  | x :: xs, y :: ys, i + 1, _, _, h, h' => by
    simp only [List.getElem?_cons_succ] at h h'
    simp only [zip2, List.getElem?_cons_succ]
    exact zip2_at h h'
theorem itok_zip2 {K : KF} {F : Hp} {b1 b2 : Bool} {a1 a2 : Addr} {vs us : List V} {xs ys : List D} (h1 : SqG K F b1 a1 vs) (h2 : SqG K F b2 a2 us) (r1 : RepL K F vs xs) (r2 : RepL K F us ys) : ItOk K (Itz2 K b1 a1 b2 a2) F (zip2 xs ys) :=
  ⟨_, _, walk_zip2 (xs := vs) (ys := us) (by rw [zip2_len, r1.len, r2.len]), fun F' H s1 s2 => ⟨SqG.up s2 (SqG.up s1 h1), SqG.up s2 (SqG.up s1 h2)⟩, fun i F' H x H' s1 s2 hi y => by
    obtain ⟨T, x1, x2, rfl, hT, rfl, e1, e2⟩ := y
    obtain ⟨d1, f1, q1⟩ := r1.getV e1
    obtain ⟨d2, f2, q2⟩ := r2.getV e2
    have up : Same F' (upd F' T (.tup [x1, x2])) := Same.add (s2.out hT)
    exact ⟨.tup [d1, d2], _, zip2_at f1 f2, Grow.new s2 hT, .tup (.of upd_same) (.cons ((q1.mono s1).mono up) (.cons ((q2.mono s1).mono up) .nil))⟩⟩
section
variable {X : Cx} {W : Wish} {a b c : Expr} {fa fb fc : Env → R D} {pos p tpos : Pos} {elts : List Expr} {kk : Nat}
theorem di_zip2 (hg : Gl X "zip") (hm : X.mg "zip" = none) (ha : DV X W a fa) (hb : DV X W b fb) (h1 : starEach (a :: [b]) X.env = (false, eval a X.env) :: starEach [b] X.env := by rfl) (h2 : starEach (b :: []) X.env = (false, eval b X.env) :: starEach [] X.env := by rfl)
    (hpl : (backTo pos (starEach [b] X.env)).any (·.1) = false := by rfl) :
    DI X W (.Tuple elts kk tpos) (.Call (.Name "zip" p) [a, b] [] pos) (iZip2 fa fb) :=
  (pi_zip2 hg hm (pa_cons ha (pa_cons hb pa_nil h2) h1) h1 hpl).weak fun σ H Q ⟨F0, H0, ρ, F, z, h⟩ => post_bind z rI_early h fun F1 H1 v x z1 g1 r1 h => post_bind z1 rI_early h fun F2 H2 u y z2 g2 r2 h => by
    obtain ⟨items, e, hF⟩ := post_of h
    unfold oZip2 at e
    obtain ⟨⟨b1, xs⟩, e1, e2⟩ := Option.bind_eq_some_iff.mp e
    obtain ⟨⟨b2, ys⟩, e3, e4⟩ := Option.map_eq_some_iff.mp e2
    subst e4
    obtain ⟨a1, vs, rfl, s1, q1⟩ := rep_sq (Rep.mono (show Rep X.K F1 v x from r1) g2.ff) e1
    obtain ⟨a2, us, rfl, s2, q2⟩ := rep_sq (show Rep X.K F2 u y from r2) e3
    exact ⟨b1, a1, b2, a2, vs, us, rfl, SqG.up z2.sub s1, SqG.up z2.sub s2, hF _ _ _ (Grow.refl z2.sub) (itok_zip2 s1 s2 q1 q2)⟩
end
end DL
/-! DL11: enumerate over a list or a tuple. -/
namespace DL
open PySem PySem.Spec PyProof.Rows L2
def Ite2 (K : KF) (b : Bool) (a : Addr) : It :=
  ⟨fun i H => ∃ (xs : List V) (x : V), SqG K H b a xs ∧ xs[i]? = some x, fun i H v H' => ∃ T x, v = .ref T ∧ H T = none ∧ H' = upd H T (.tup [.int (i : Nat), x]) ∧ ∀ xs, SqG K H b a xs → xs[i]? = some x, fun i H => ∃ xs : List V, SqG K H b a xs ∧ i = xs.length⟩
theorem turn_enum2 {P : Program} {w : World} {K : KF} {elts : List Expr} {kk : Nat} {tpos : Pos} {b : Bool} {a e it : Addr} (hei : e ≠ it) (hea : e ≠ a) (hai : a ≠ it) :
    Turn P w K (.Tuple elts kk tpos) (Ite2 K b a) [e, it] e (fun i h => (∃ old, IsEnum h e it ((i : Nat) : Int) old) ∧ ItG h b it a i) where
  mem := by simp
  obj := fun i h st c hc => by
    obtain ⟨⟨old, he⟩, h1⟩ := st
    have e' : c = e ∨ c = it := by simpa using hc
    rcases e' with rfl | rfl
    · exact ⟨_, he, fun v q => nomatch q⟩
    · exact h1.obj
  keep := fun i h h' st k => let ⟨⟨old, he⟩, hi⟩ := st; ⟨⟨old, k e (by simp) _ he⟩, hi.at fun o q => k it (by simp) o q⟩
  item := by
    intro X hP hw hK hc i pins s σ H E I hf st hg
    subst hP hw hK
    obtain ⟨⟨old, he⟩, h1⟩ := st
    obtain ⟨xs, x, hq, hx⟩ := hg
    obtain ⟨its, rv, p⟩ := inv_G I hq
    have l1 := rv.length
    have lx := (List.getElem?_eq_some_iff.mp hx).1
    have hh : X.A.in1.handled = none := by simpa using I.ok.hd hc
    have hel : e < s.heap.objs.size := Heap.lt_size he
    have hil : it < s.heap.objs.size := by obtain ⟨_, q, _⟩ := h1.obj; exact Heap.lt_size q
    refine wpAny_pyNext_enum_itemD (draws_G hh b it a hai its.toArray) he ⟨h1, p⟩ (by simp; omega) hei (out2 hei hea) fun u h' tk hu ho st' hT hsz hk => ?_
    refine ⟨_, rfl, wpAny_letOwnedTupleGo_enum (s := { s with heap := h', toks := tk + 1 }) ho fun h'' he' sb => ?_⟩
    obtain ⟨w1, hw1, ru⟩ := rv.get hx
    have e1 : u = w1 := by
      have q : its[i]? = some u := by simpa using hu
      rw [hw1] at q; exact (Option.some.inj q).symm
    subst e1
    have hT2 : h''.get? s.heap.objs.size = some { cls := .type "tuple", data := .seq #[.int i tk, u] } := (sb.2 _ (Nat.ne_of_gt hel)).trans hT
    have new : ObjOk X.prog X.w (upd H s.heap.objs.size (.tup [.int (i : Nat), x])) h'' s.heap.objs.size (.tup [.int (i : Nat), x]) :=
      ⟨by rw [sizeLine_eq]; show 2 ≤ 16777216; decide, [.int i tk, u], .cons ⟨_, rfl⟩ (.cons ru .nil), ⟨_, hT2, rfl, _, rfl⟩⟩
    have I1 : Inv X pins σ (upd H s.heap.objs.size (.tup [.int (i : Nat), x])) { s with heap := h'', toks := tk + 1 } :=
      I.turnedNew (t' := tk + 1) (ch := [e, it]) (fun c o hb q => (sb.2 c (fun q' => hb (by simp [q']))).trans (hk c o (fun q' => hb (by simp [q'])) (fun q' => hb (by simp [q'])) q)) hf (Nat.le_refl _) new
    refine ⟨.ref s.heap.objs.size, _, I1, rfl, ⟨_, x, rfl, I.hok.fresh (Nat.le_refl _), rfl, fun l hl => by rw [inv_G_inj I hl hq]; exact hx⟩, ⟨⟨u, ?_⟩, st'.1.at fun o q => (sb.2 it (Ne.symm hei)).trans q⟩, fun c hcm => ?_⟩
    · have e1 : ((i + 1 : Nat) : Int) = (i : Int) + 1 := by omega
      rw [e1]; exact he'
    · have hlt : c < s.heap.objs.size := by
        have e' : c = e ∨ c = it := by simpa using hcm
        rcases e' with rfl | rfl
        · exact hel
        · exact hil
      rw [upd_ne (Nat.ne_of_lt hlt)]
      exact (hf c hcm).1
  done := by
    intro X hP hw hK hc i pins s σ H E I hf st hg
    subst hP hw hK
    obtain ⟨⟨old, he⟩, h1⟩ := st
    obtain ⟨xs, hq, hi⟩ := hg
    obtain ⟨its, rv, p⟩ := inv_G I hq
    have l1 := rv.length
    have hh : X.A.in1.handled = none := by simpa using I.ok.hd hc
    obtain ⟨f0, f1, f2, f3, f4, f5⟩ := hf it (by simp)
    have en : i = its.toArray.size := by simp; omega
    refine wpAny_pyNext_enum_endD (draws_G hh b it a hai its.toArray) he (by rw [← en]; exact ⟨h1, p⟩) fun h' eb => ⟨rfl, I.turned (t' := s.toks) (fun c o hb q => eb c o hb q) f0 f1 f3 f4 f5⟩
  self := fun A i s Q E st h => let ⟨⟨_, he⟩, _⟩ := st; wpAny_pyIter_enum he h
theorem walk_enum2 {K : KF} {b : Bool} {a : Addr} {xs : List V} : Walk (Ite2 K b a) xs.length (fun H => SqG K H b a xs) (YPair (fun i => some (.int (i : Nat))) (fun i => xs[i]?)) := by
  refine ⟨fun i _ hi q => ⟨xs, xs[i], q, by simp [hi]⟩, fun _ q => ⟨xs, q, rfl⟩, fun i H v H' _ q y => ?_⟩
  obtain ⟨T, x, h1, h2, h3, h4⟩ := y
  exact ⟨T, .int (i : Nat), x, h1, h2, h3, rfl, h4 xs q⟩
def iEn2 (K : KF) (ta : TA) : TI := fun σ H R => ta σ H fun vs H1 => ∃ b a xs, vs = [.ref a] ∧ SqG K H1 b a xs ∧ R (Ite2 K b a) H1
set_option maxHeartbeats 1000000 in
theorem makes_enum1 {it0 : Value} {cell : Obj} {Pre : Heap → Prop} (B : Begins it0 cell Pre) :
    Meets (Builtin.«enumerate.__new__» ⟨[.type "enumerate", it0], []⟩) fun _ R s =>
      Pre s.heap ∧ R (.ok (.ret (.ref (s.heap.push cell).objs.size)))
        { s with heap := (s.heap.push cell).push { cls := .type "enumerate", data := .fields #[.none, .bool false, .ref s.heap.objs.size, rawInt 0, .none, .none] } } :=
  .of_wp fun pr wo Ar R s hyp => by
    obtain ⟨h0, gg, dd, kk, oo⟩ := s
    obtain ⟨pre, hyp⟩ := hyp
    have subE := sub_enumerate
    have goIt : ∀ {A' : Around} {E Q : Value → Shared → Prop}, Q (.ref h0.objs.size) ⟨h0.push cell, gg, dd, kk, oo⟩ →
        wpAny (model pr wo) A' (pyIter it0) Q E ⟨h0, gg, dd, kk, oo⟩ :=
      fun q => B.iter pr wo _ _ ⟨h0, gg, dd, kk, oo⟩ _ pre q
    wp_walk using goIt
    refine wpAny_stack_any fun stk => wpAny_pure ?_
    split
    · rename_i cl _ _ _ _ _
      cases cl == Value.type "enumerate" <;> (wp_walk using goIt; exact ⟨_, rfl, hyp⟩)
    · wp_walk using goIt; exact ⟨_, rfl, hyp⟩
theorem enum_begins1 {prog : Program} {w : World} {A : Around} {E Q : Value → Shared → Prop} {s : Shared} {v : Value} {o : Obj} {Pre : Heap → Prop} (B : Begins v o Pre) (pre : Pre s.heap)
    (hQ : ∀ h', IsEnum h' (s.heap.objs.size + 1) s.heap.objs.size 0 .none → h'.get? s.heap.objs.size = some o →
      (∀ b o, s.heap.get? b = some o → h'.get? b = some o) → Q (.ref (s.heap.objs.size + 1)) { s with heap := h' }) :
    wpAny (model prog w) A (call (.type "enumerate") [v]) Q E s := by
  refine callType_new F.called_enumerate (by decide) (F.typeCall_enumerate_1 _)
    (F.newCall_enumerate_1 _) (fun ob => F.args_object_init_2 ob _) F.entry_enumerate_new (makes_enum1 B) ⟨pre, ?_⟩
  have sz : (s.heap.push o).objs.size = s.heap.objs.size + 1 := Heap.size_push ..
  show _ ∧ _
  rw [sz]
  generalize hE : ({ cls := .type "enumerate", data := .fields #[.none, .bool false, .ref s.heap.objs.size, rawInt 0, .none, .none] } : Obj) = eo
  have fr : eo.cls = .type "enumerate" := by subst hE; rfl
  have g1 : ((s.heap.push o).push eo).get? (s.heap.objs.size + 1) = some eo := by
    have q := Heap.get?_push_size (s.heap.push o) (o := eo) (by subst hE; rfl)
    rwa [sz] at q
  exact ⟨⟨eo, g1, fr⟩, hQ _ (by subst hE; exact g1) (Heap.get?_push_of_some _ (Heap.get?_push_size _ B.free)) fun b ob x =>
    Heap.get?_push_of_some _ (Heap.get?_push_of_some _ x)⟩
theorem far1 {n a : Nat} (h : a < n) : n + 1 ≠ a := by omega
theorem pi_enum2 {X : Cx} {e : Expr} {ta : TA} {p pos tpos : Pos} {elts : List Expr} {kk : Nat} (hg : Gl X "enumerate") (hm : X.mg "enumerate" = none) (ha : PA X [e] ta)
    (hs : starEach [e] X.env = (false, eval e X.env) :: starEach [] X.env := by rfl) (hpl : (backTo pos (starEach [] X.env)).any (·.1) = false := by rfl) :
    PI X (.Tuple elts kk tpos) (.Call (.Name "enumerate" p) [e] [] pos) (iEn2 X.K ta) := by
  refine ⟨fun pins s σ H R I h => ?_⟩
  refine Call_ (ld_blt I hg hm PyProof.Rows.boot_enumerate (PyProof.Rows.callWith_type1 (thn (ha.run pos pins s σ H _ I h) fun us s1 ⟨vs, H1, I1, r1, q1⟩ => ?_) hs hpl))
  obtain ⟨b, a, xs, ex, hq, q⟩ := q1
  subst ex
  cases r1 with
  | cons r rr =>
    cases rr
    cases r
    obtain ⟨its, rv, p1⟩ := inv_G I1 hq
    refine enum_begins1 (begins_G b a its.toArray) p1 fun h' he hi hk => wpAny_pyIter_enum he ?_
    have I2 : Inv X pins σ H1 { s1 with heap := h' } := I1.kept (t' := s1.toks) hk
    refine ⟨s1.heap.objs.size + 1, [s1.heap.objs.size + 1, s1.heap.objs.size], _, _, H1, rfl, I2, turn_enum2 (gt_ne (by omega)) (far1 p1.lt) (lt_ne p1.lt), ⟨⟨_, he⟩, ItG.new hi⟩, fun c hcm => ?_, q⟩
    have e' : c = s1.heap.objs.size + 1 ∨ c = s1.heap.objs.size := by simpa using hcm
    have hle : s1.heap.objs.size ≤ c := by
      rcases e' with z | z
      · rw [z]; exact Nat.le_add_right _ _
      · rw [z]; exact Nat.le_refl _
    exact I1.fpOk hle (I1.hok.fresh hle)

/-! ### over data -/
def enumD : Nat → List D → List D
  | _, [] => []
  | k, x :: xs => .tup [.int k, x] :: enumD (k + 1) xs
def oEnum (x : D) : Option (List D) := (oSeq x).map fun p => enumD 0 p.2
abbrev iEnm (a : Env → R D) : Env → R (List D) := fun ρ => (a ρ).bind fun x => R.of (oEnum x)
theorem enumD_len : ∀ (k : Nat) (xs : List D), (enumD k xs).length = xs.length
  | _, [] => rfl
  | k, x :: xs => by simp [enumD, enumD_len (k + 1) xs]
theorem enumD_at : ∀ {k : Nat} {xs : List D} {i : Nat} {x : D}, xs[i]? = some x → (enumD k xs)[i]? = some (.tup [.int ((k + i : Nat) : Int), x])
  | _, [], _, _, h => by simp at h
  | k, x :: xs, 0, _, h => by simp at h; simp [enumD, h]
  | k, x :: xs, i + 1, _, h => by
    simp only [List.getElem?_cons_succ] at h
    simp only [enumD, List.getElem?_cons_succ]
    rw [enumD_at h]
    simp only [Nat.add_assoc, Nat.add_comm 1 i]
theorem itok_enum2 {K : KF} {F : Hp} {b : Bool} {a : Addr} {vs : List V} {xs : List D} (h1 : SqG K F b a vs) (r1 : RepL K F vs xs) : ItOk K (Ite2 K b a) F (enumD 0 xs) :=
  ⟨_, _, by rw [enumD_len, ← r1.len]; exact walk_enum2 (xs := vs), fun F' H s1 s2 => SqG.up s2 (SqG.up s1 h1), fun i F' H x H' s1 s2 hi y => by
    obtain ⟨T, y1, x1, rfl, hT, rfl, e0, e1⟩ := y
    cases e0
    obtain ⟨d1, f1, q1⟩ := r1.getV e1
    have up : Same F' (upd F' T (.tup [.int (i : Nat), x1])) := Same.add (s2.out hT)
    have f2 : (enumD 0 xs)[i]? = some (.tup [.int ((i : Nat) : Int), d1]) := by have := enumD_at (k := 0) f1; simpa using this
    exact ⟨.tup [.int ((i : Nat) : Int), d1], _, f2, Grow.new s2 hT, .tup (.of upd_same) (.cons (.int _) (.cons ((q1.mono s1).mono up) .nil))⟩⟩
section
variable {X : Cx} {W : Wish} {a : Expr} {fa : Env → R D} {pos p tpos : Pos} {elts : List Expr} {kk : Nat}
theorem di_enum (hg : Gl X "enumerate") (hm : X.mg "enumerate" = none) (ha : DV X W a fa) (h1 : starEach (a :: []) X.env = (false, eval a X.env) :: starEach [] X.env := by rfl)
    (hpl : (backTo pos (starEach [] X.env)).any (·.1) = false := by rfl) :
    DI X W (.Tuple elts kk tpos) (.Call (.Name "enumerate" p) [a] [] pos) (iEnm fa) :=
  (pi_enum2 hg hm (pa_cons ha pa_nil h1) h1 hpl).weak fun σ H Q ⟨F0, H0, ρ, F, z, h⟩ => post_bind z rI_early h fun F1 H1 v x z1 g1 r1 h => by
    obtain ⟨items, e, hF⟩ := post_of h
    unfold oEnum at e
    obtain ⟨⟨b1, xs⟩, e1, e4⟩ := Option.map_eq_some_iff.mp e
    subst e4
    obtain ⟨a1, vs, rfl, s1, q1⟩ := rep_sq (show Rep X.K F1 v x from r1) e1
    exact ⟨b1, a1, vs, rfl, SqG.up z1.sub s1, hF _ _ _ (Grow.refl z1.sub) (itok_enum2 s1 q1)⟩
end
end DL
/-! DL12: comprehensions of any number of clauses. -/
namespace DL
open PySem PySem.Spec PyProof.Rows L2

/-- one clause's walk: each item is stored, tested, and what stands inside is told for it -/
def lcN (gt : D → Env → Option Env) (tt : Env → R Bool) (fin : Env → Option (List D)) (ρ : Env) : List D → Option (List D)
  | [] => some []
  | d :: ds => (gt d ρ).bind fun ρ1 => (calm (tt ρ1)).bind fun k => (if k = true then fin ρ1 else some []).bind fun ys => (lcN gt tt fin ρ ds).map fun zs => ys ++ zs
/-- the list that grows, in no one's slot -/
structure Acc (K : KF) (Fb Hb F0 H0 : Hp) (ρ : Env) (σ : L2.St) (F H : Hp) (Dd : Addr) (dn : List D) : Prop where
  sl : SL K F0 H0 ρ σ F H
  gb : Grow Fb Hb F H
  hb : Hb Dd = none
  f : F Dd = none
  h0 : H0 Dd = none
  ap : ∀ (i : Nat) (s : S), ρ[i]? = some (some s) → s.own = true → σ[i]? ≠ some (some (V.ref Dd))
  own : ∃ acc, H Dd = some (.lst acc) ∧ RepL K F acc dn
section
variable {K : KF} {Fb Hb F0 H0 F H F' H' : Hp} {ρ ρ' : Env} {σ σ' : L2.St} {Dd : Addr} {dn : List D}
theorem Acc.up (a : Acc K Fb Hb F0 H0 ρ σ F H Dd dn) (g : Grow F H F' H') : Acc K Fb Hb F0 H0 ρ σ F' H' Dd dn := by
  obtain ⟨acc, h1, r⟩ := a.own
  exact ⟨a.sl.up g, a.gb.trans g, a.hb, g.nn Dd (by rw [h1]; simp) a.f, a.h0, a.ap, acc, g.hh _ _ h1, r.mono g.ff⟩
theorem Acc.wipe (a : Acc K Fb Hb F0 H0 ρ σ F H Dd dn) (vs : List Nat) : Acc K Fb Hb F0 H0 (wipeE ρ vs) (L2.wipe σ vs) F H Dd dn := by
  refine ⟨a.sl.wipe vs, a.gb, a.hb, a.f, a.h0, fun i s e o q => ?_, a.own⟩
  rw [wipeE_at] at e
  rw [wipe_at] at q
  split at e
  · cases h : ρ[i]? <;> rw [h] at e <;> cases e
  · rename_i hn
    rw [if_neg hn] at q
    exact a.ap i s e o q
/-- slots that are stored into by data keep away from the list -/
theorem Acc.slots (a : Acc K Fb Hb F0 H0 ρ σ F H Dd dn) (g : Grow F H F' H') (z : SL K F0 H0 ρ' σ' F' H') (nw : ∀ (i : Nat) (s : S), ρ'[i]? = some (some s) → s.own = true → ρ[i]? = some (some s) ∧ σ'[i]? = σ[i]?) : Acc K Fb Hb F0 H0 ρ' σ' F' H' Dd dn := by
  obtain ⟨acc, h1, r⟩ := a.own
  refine ⟨z, a.gb.trans g, a.hb, g.nn Dd (by rw [h1]; simp) a.f, a.h0, fun i s e o q => ?_, acc, g.hh _ _ h1, r.mono g.ff⟩
  obtain ⟨e1, e2⟩ := nw i s e o
  rw [e2] at q
  exact a.ap i s e1 o q
theorem Acc.add {v : V} {d : D} (a : Acc K Fb Hb F0 H0 ρ σ F H Dd dn) {acc : List V} (h1 : H Dd = some (.lst acc)) (r : RepL K F acc dn) (rv : Rep K F v d) : Acc K Fb Hb F0 H0 ρ σ F (upd H Dd (.lst (acc ++ [v]))) Dd (dn ++ [d]) :=
  ⟨a.sl.poke a.f a.h0 a.ap, a.gb.poke a.f a.hb, a.hb, a.f, a.h0, a.ap, acc ++ [v], upd_same, r.app (.cons rv .nil)⟩
end
/-- what stands inside a clause -/
def Inner (Y : Cx) (Dd : Addr) (t : Sem Unit) (js : List Nat) (f : Env → Option (List D)) : Prop :=
  ∀ (pins : List (Addr × Obj)) (s : Shared) (σ : L2.St) (H Fb Hb F0 H0 : Hp) (ρ : Env) (F : Hp) (dn out : List D), Inv Y pins σ H s → Acc Y.K Fb Hb F0 H0 ρ σ F H Dd dn → f ρ = some out → dn.length + out.length ≤ 16777216 →
    wpAny (model Y.prog Y.w) Y.A t (fun _ s' => ∃ F' H', Inv Y pins (L2.wipe σ js) H' s' ∧ Same F F' ∧ Acc Y.K Fb Hb F0 H0 (wipeE ρ js) (L2.wipe σ js) F' H' Dd (dn ++ out)) (fun _ _ => False) s
/-- a clause's loop, from its iterator's begin -/
def Lvl (Y : Cx) (LC : Expr) (k : Nat) (tg : Expr) (Dd : Addr) (js : List Nat) (f : Env → List D → Option (List D)) : Prop :=
  ∀ (items : List D) (J : It) (it : Addr) (fp : List Addr) (tn : Nat → Heap → Prop) (pins : List (Addr × Obj)) (s : Shared) (σ : L2.St) (H Fb Hb F0 H0 : Hp) (ρ : Env) (F : Hp) (dn out : List D) (Z : Result → Shared → Prop),
    Turn Y.prog Y.w Y.K tg J fp it tn → ItOk Y.K J F items → Inv Y pins σ H s → tn 0 s.heap → (∀ b ∈ fp, FpOk Y pins H b) → Acc Y.K Fb Hb F0 H0 ρ σ F H Dd dn → f (wipeE ρ js) items = some out → dn.length + out.length ≤ 16777216 →
    (∀ F' H' s', Inv Y pins (L2.wipe σ js) H' s' → Same F F' → Acc Y.K Fb Hb F0 H0 (wipeE ρ js) (L2.wipe σ js) F' H' Dd (dn ++ out) → Z (.ok .next) s') →
    codeAny (model Y.prog Y.w) Y.A (.compLoop LC k (.ref it) (.ref Dd) Y.env) Z s
/-- how a turn of clause k reads -/
def Reads (LC : Expr) (k : Nat) (tg : Expr) (ip : Pos) (ifs : List Expr) (Dd : Addr) (env : PySem.Env) (rest : Sem Unit) : Prop :=
  ∀ it : Value, compTurn LC k it (.ref Dd) env = (do
    standAt ip
    match ← pyNext it with
    | none => pure (.done .next)
    | some v =>
      letOwnedTupleGo tg it v
      assign tg env v
      let mut ok := true
      for c in ifs do
        if ok then ok ← isTrue c env (eval c env)
      if ok then
        rest
      again (.compLoop LC k it (.ref Dd) env))
theorem wipe_mem {σ : L2.St} {vs : List Nat} {j : Nat} {v : V} (h : (L2.wipe σ vs)[j]? = some (some v)) : j ∉ vs ∧ σ[j]? = some (some v) := by
  rw [wipe_at] at h
  split at h
  · cases q : σ[j]? <;> rw [q] at h <;> cases h
  · rename_i hn; exact ⟨hn, h⟩
theorem wipeE_mem {ρ : Env} {vs : List Nat} {j : Nat} {s : S} (h : (wipeE ρ vs)[j]? = some (some s)) : j ∉ vs ∧ ρ[j]? = some (some s) := by
  rw [wipeE_at] at h
  split at h
  · cases q : ρ[j]? <;> rw [q] at h <;> cases h
  · rename_i hn; exact ⟨hn, h⟩
/-- targets store data alone -/
def OnlyD (is : List Nat) (gt : D → Env → Option Env) : Prop := ∀ (d : D) (ρ ρ' : Env), gt d ρ = some ρ' → ρ'.length = ρ.length ∧ (∀ j, j ∉ is → ρ'[j]? = ρ[j]?) ∧ ∀ j ∈ is, ∀ s : S, ρ'[j]? = some (some s) → s.own = false ∨ ρ[j]? = some (some s)
theorem onlyD_name (i : Nat) : OnlyD [i] (setD i) := fun d ρ ρ' e => by
  cases e
  refine ⟨List.length_set, fun j hj => List.getElem?_set_ne (fun e => hj (by simp [e])), fun j hj s e => ?_⟩
  have hj : j = i := by simpa using hj
  subst hj
  by_cases hl : j < ρ.length
  · rw [List.getElem?_set_self hl] at e
    cases e
    exact .inl rfl
  · rw [List.getElem?_eq_none (by simp; omega)] at e
    cases e
def OnlyDs (is : List Nat) (gt : List D → Env → Option Env) : Prop := ∀ (d : List D) (ρ ρ' : Env), gt d ρ = some ρ' → ρ'.length = ρ.length ∧ (∀ j, j ∉ is → ρ'[j]? = ρ[j]?) ∧ ∀ j ∈ is, ∀ s : S, ρ'[j]? = some (some s) → s.own = false ∨ ρ[j]? = some (some s)
theorem onlyDs_nil : OnlyDs [] gsNil := fun d ρ ρ' e => by
  cases d with
  | nil => cases e; exact ⟨rfl, fun _ _ => rfl, fun j h => absurd h (by simp)⟩
  | cons _ _ => cases e
theorem onlyDs_cons {is js : List Nat} {g : D → Env → Option Env} {gs : List D → Env → Option Env} (h1 : OnlyD is g) (h2 : OnlyDs js gs) : OnlyDs (is ++ js) (gsCons g gs) := fun ds ρ ρ' e => by
  cases ds with
  | nil => cases e
  | cons d r =>
    obtain ⟨ρ1, e1, e2⟩ := Option.bind_eq_some_iff.mp e
    obtain ⟨a1, a2, a3⟩ := h1 d ρ ρ1 e1
    obtain ⟨b1, b2, b3⟩ := h2 r ρ1 ρ' e2
    have two : ∀ (j : Nat) (s : S), ρ1[j]? = some (some s) → s.own = false ∨ ρ[j]? = some (some s) := fun j s q => by
      by_cases hj : j ∈ is
      · exact a3 j hj s q
      · rw [a2 j hj] at q; exact .inr q
    refine ⟨b1.trans a1, fun j hj => (b2 j fun h => hj (List.mem_append_right _ h)).trans (a2 j fun h => hj (List.mem_append_left _ h)), fun j hj s e => ?_⟩
    by_cases hj : j ∈ js
    · rcases b3 j hj s e with o | q
      · exact .inl o
      · exact two j s q
    · rw [b2 j hj] at e
      exact two j s e
theorem onlyD_tup {is : List Nat} {n : Nat} {gs : List D → Env → Option Env} (h : OnlyDs is gs) : OnlyD is (gT n gs) := fun d ρ ρ' e => by
  cases d with
  | tup xs =>
    have e : (if xs.length = n then gs xs ρ else none) = some ρ' := e
    split at e
    · exact h xs ρ ρ' e
    · cases e
  | lst xs =>
    have e : (if xs.length = n then gs xs ρ else none) = some ρ' := e
    split at e
    · exact h xs ρ ρ' e
    · cases e
  | _ => cases e
section
variable {Y : Cx} {W : Wish} {elt tg iter : Expr} {gens : List Comprehension} {scope : Scope} {pos : Pos} {ifs : List Expr} {k : Nat} {Dd : Addr} {rest : Sem Unit} {is js : List Nat} {gt : D → Env → Option Env} {tt : Env → R Bool} {fin : Env → Option (List D)}
theorem lvl_of {ip : Pos} (hc : Y.calm = true) (hx : ∀ e s, ¬ Y.xe e s) (hg : DG Y tg is gt) (od : OnlyD is gt) (ht : DTs Y W ifs tt) (hin : Inner Y Dd rest js fin) (rd : Reads (.ListComp elt gens scope pos) k tg ip ifs Dd Y.env rest) : Lvl Y (.ListComp elt gens scope pos) k tg Dd (is ++ js) (lcN gt tt fin) := by
  intro items J it fp tn pins s σ H Fb Hb F0 H0 ρ F dn out Z T hJ I st ff A e few hZ
  obtain ⟨G, Yd, w, hG, hY⟩ := hJ
  have far : ∀ {H' : Hp}, (∀ b ∈ fp, H' b = none) → ∀ b ∈ fp, FpOk Y pins H' b := fun hn b hb => ⟨hn b hb, (ff b hb).2⟩
  have qt : (Code.compLoop (.ListComp elt gens scope pos) k (.ref it) (.ref Dd) Y.env).quiet = true := rfl
  refine codeAny_loop qt (fun m s' => ∃ i F' H' dn' tail, m = items.length - i ∧ i ≤ items.length ∧ Inv Y pins (L2.wipe σ (is ++ js)) H' s' ∧ tn i s'.heap ∧ (∀ b ∈ fp, H' b = none) ∧ Same F F' ∧
    Acc Y.K Fb Hb F0 H0 (wipeE ρ (is ++ js)) (L2.wipe σ (is ++ js)) F' H' Dd dn' ∧ lcN gt tt fin (wipeE ρ (is ++ js)) (items.drop i) = some tail ∧ dn' ++ tail = dn ++ out) ?_ items.length
    ⟨0, F, H, dn, out, rfl, Nat.zero_le _, I.weak (wipe_length _ _) (fun j v e => (wipe_mem e).2), st, fun b hb => (ff b hb).1, Same.refl _, A.wipe _, e, rfl⟩
  rintro m s5 ⟨i, F5, H5, dn5, tail5, rfl, hi, I5, st5, n5, sm5, A5, e5, eq5⟩
  show wpAny _ Y.A ((compTurn (.ListComp elt gens scope pos) k (.ref it) (.ref Dd) Y.env).onRaise (fun x => do noteFrame x Y.env; theTreesLotGoes x)) _ _ s5
  refine wpAny_noted ?_
  rw [rd]
  have no : ∀ {E : Value → Shared → Prop} (e : Value) (s : Shared), Y.xe e s → E e s := fun e s z => (hx e s z).elim
  by_cases hlt : i < items.length
  case neg =>
    have ei : i = items.length := by omega
    subst ei
    rw [List.drop_length] at e5
    cases e5
    rw [List.append_nil] at eq5
    subst eq5
    refine wpAny_bind (wpAny_standAt (wpAny_bind (wpAny_mono (T.done Y rfl rfl rfl hc items.length pins s5 _ H5 _ I5 (far n5) st5 (w.stops H5 (hG F5 H5 sm5 A5.sl.sub))) (fun r s6 h => ?_) fun _ _ h => h)))
    obtain ⟨rfl, I6⟩ := h
    exact wpAny_pure (hZ F5 H5 s6 I6 sm5 A5)
  case pos =>
    refine wpAny_bind (wpAny_standAt (wpAny_bind (wpAny_mono (T.item Y rfl rfl rfl hc i pins s5 _ H5 _ I5 (far n5) st5 (w.goes i H5 hlt (hG F5 H5 sm5 A5.sl.sub))) (fun r s6 h => ?_) fun _ _ h => h)))
    obtain ⟨u, rfl, h⟩ := h
    refine wpAny_bind (wpAny_mono h (fun _ s7 h7 => ?_) fun _ _ h => h)
    obtain ⟨x, H7, I7, r7, y7, st7, n7⟩ := h7
    obtain ⟨d, F7, ed, g7, rp7⟩ := hY i F5 H5 x H7 sm5 A5.sl.sub hlt (w.yields i H5 x H7 hlt (hG F5 H5 sm5 A5.sl.sub) y7)
    have edr : items.drop i = d :: items.drop (i + 1) := by
      rw [List.drop_eq_getElem_cons hlt]
      rw [List.getElem?_eq_getElem hlt] at ed
      cases ed; rfl
    rw [edr] at e5
    obtain ⟨ρ1, e1, e2⟩ := Option.bind_eq_some_iff.mp e5
    obtain ⟨b, e3, e4⟩ := Option.bind_eq_some_iff.mp e2
    obtain ⟨ys, e6, e7⟩ := Option.bind_eq_some_iff.mp e4
    obtain ⟨zs, e8, e9⟩ := Option.map_eq_some_iff.mp e7
    have e3 := calm_some e3
    have A7 := A5.up g7
    have J7 := I7.pinned (far n7) (T.obj _ _ st7)
    refine wpAny_bind (wpAny_mono (hg.run _ s7 _ H7 x u (fun σ8 H8 => ∃ F8, Grow F7 H7 F8 H8 ∧ SL Y.K F0 H0 ρ1 σ8 F8 H8 ∧ Else is (L2.wipe σ (is ++ js)) σ8) J7 r7
      ⟨F0, H0, _, F7, d, ρ1, A7.sl, rp7, e1, fun σ8 F8 H8 g8 z8 el => ⟨F8, g8, z8, el⟩⟩) (fun _ s8 h8 => ?_) no)
    obtain ⟨σ8, H8, I8, F8, g8, z8, el⟩ := h8
    obtain ⟨o1, o2, o3⟩ := od d _ ρ1 e1
    have A8 : Acc Y.K Fb Hb F0 H0 ρ1 σ8 F8 H8 Dd dn5 := A7.slots g8 z8 fun j sl e o => by
      by_cases hj : j ∈ is
      · rcases o3 j hj sl e with q | q
        · rw [q] at o; cases o
        · exact absurd hj fun h => (wipeE_mem q).1 (List.mem_append_left _ h)
      · exact ⟨by rw [← o2 j hj]; exact e, el.2 j hj⟩
    refine wpAny_bind (wpAny_mono (ht.run _ s8 σ8 H8 (fun q H9 => q = b ∧ ∃ F9, Grow F8 H8 F9 H9) I8 ⟨F0, H0, ρ1, F8, z8, by
      rw [e3]; exact fun q F9 H9 g9 hq => ⟨hq, F9, g9⟩⟩) (fun q s9 h9 => ?_) no)
    obtain ⟨H9, I9, rfl, F9, g9⟩ := h9
    have A9 := A8.up g9
    -- the turn's end
    have fine : ∀ {s' : Shared} {H' F' : Hp} {vs : List Nat} {dn' : List D}, (∀ j ∈ vs, j ∈ js) → Inv Y (pins ++ pinsAt fp s7.heap) (L2.wipe σ8 vs) H' s' → Same F9 F' → Acc Y.K Fb Hb F0 H0 (wipeE ρ1 vs) (L2.wipe σ8 vs) F' H' Dd dn' → dn' ++ zs = dn ++ out →
        ∃ m, m < items.length - i ∧ ∃ i' F' H' dn' tail, m = items.length - i' ∧ i' ≤ items.length ∧ Inv Y pins (L2.wipe σ (is ++ js)) H' s' ∧ tn i' s'.heap ∧ (∀ b ∈ fp, H' b = none) ∧ Same F F' ∧
          Acc Y.K Fb Hb F0 H0 (wipeE ρ (is ++ js)) (L2.wipe σ (is ++ js)) F' H' Dd dn' ∧ lcN gt tt fin (wipeE ρ (is ++ js)) (items.drop i') = some tail ∧ dn' ++ tail = dn ++ out := by
      intro s' H' F' vs dn' hv I' sm A' eq'
      have pin' : ∀ b ∈ fp, ∀ o, s7.heap.get? b = some o → s'.heap.get? b = some o ∧ H' b = none := fun b hb o e =>
        ⟨(I'.pin (b, o) (List.mem_append_right _ (List.mem_append_right _ (mem_pinsAt hb e)))).1, (I'.pin (b, o) (List.mem_append_right _ (List.mem_append_right _ (mem_pinsAt hb e)))).2.1⟩
      have lσ : (L2.wipe σ (is ++ js)).length = (L2.wipe σ8 vs).length := by rw [wipe_length σ8 vs, ← el.1]
      have kσ : ∀ (j : Nat) v, (L2.wipe σ (is ++ js))[j]? = some (some v) → (L2.wipe σ8 vs)[j]? = some (some v) := fun j v q => by
        have q2 := wipe_mem q
        rw [wipe_at, if_neg fun h => q2.1 (List.mem_append_right _ (hv j h)), el.2 j fun h => q2.1 (List.mem_append_left _ h)]
        exact q
      refine ⟨items.length - (i + 1), by omega, i + 1, F', H', dn', zs, rfl, hlt, (I'.unpinned).weak lσ kσ, T.keep _ _ _ st7 fun b hb o e => (pin' b hb o e).1, fun b hb => ?_, ((((sm5.trans g7.ff).trans g8.ff).trans g9.ff).trans sm), ?_, e8, eq'⟩
      · obtain ⟨o, e, _⟩ := T.obj _ _ st7 b hb
        exact (pin' b hb o e).2
      · have back : ∀ {j : Nat} {sl : S}, (wipeE ρ (is ++ js))[j]? = some (some sl) → (wipeE ρ1 vs)[j]? = some (some sl) ∧ (L2.wipe σ8 vs)[j]? = (L2.wipe σ (is ++ js))[j]? := fun {j sl} q => by
          have q2 := wipeE_mem q
          have n1 : j ∉ is := fun h => q2.1 (List.mem_append_left _ h)
          have n2 : j ∉ vs := fun h => q2.1 (List.mem_append_right _ (hv j h))
          refine ⟨?_, ?_⟩
          · rw [wipeE_at, if_neg n2, o2 j n1]; exact q
          · rw [wipe_at, if_neg n2, el.2 j n1]
        refine ⟨⟨A'.sl.grow, by rw [lσ, A'.sl.len, wipeE_length, wipeE_length, o1, wipeE_length], fun j sl q => ?_, fun j k2 sl tl a hjk q1 q2 w1 w2 f1 f2 => ?_⟩, A'.gb, A'.hb, A'.f, A'.h0, fun j sl q w1 f1 => ?_, A'.own⟩
        · obtain ⟨b1, b2⟩ := back q
          rw [← b2]
          exact A'.sl.slot j sl b1
        · obtain ⟨b1, b2⟩ := back q1
          obtain ⟨c1, c2⟩ := back q2
          rw [← b2] at f1
          rw [← c2] at f2
          exact A'.sl.apart j k2 sl tl a hjk b1 c1 w1 w2 f1 f2
        · obtain ⟨b1, b2⟩ := back q
          rw [← b2] at f1
          exact A'.ap j sl b1 w1 f1
    cases q with
    | false =>
      cases e6
      exact wpAny_pure ⟨rfl, fine (vs := []) (fun j h => absurd h (by simp)) I9 (Same.refl _) A9 (by rw [← eq5, ← e9]; rfl)⟩
    | true =>
      have e6 : fin ρ1 = some ys := e6
      have len : dn5.length + ys.length ≤ 16777216 := by
        have := congrArg List.length eq5
        rw [← e9, List.length_append, List.length_append, List.length_append] at this
        omega
      exact wpAny_bind (wpAny_mono (hin _ s9 σ8 H9 Fb Hb F0 H0 ρ1 F9 dn5 ys I9 A9 e6 len) (fun _ s10 ⟨F10, H10, I10, sm10, A10⟩ => wpAny_pure ⟨rfl, fine (fun j h => h) I10 sm10 A10 (by rw [← eq5, ← e9, List.append_assoc])⟩) fun _ _ z => z.elim)

/-- the last clause: the element is told and appended -/
theorem inner_elt {fe : Env → R D} (hx : ∀ e s, ¬ Y.xe e s) (he : DV Y W elt fe) : Inner Y Dd (do let _ ← call (.builtin "list.append") [.ref Dd, ← eval elt Y.env]) [] (fun ρ => (calm (fe ρ)).map fun d => [d]) := by
  intro pins s σ H Fb Hb F0 H0 ρ F dn out I A e few
  obtain ⟨d, e1, e2⟩ := Option.map_eq_some_iff.mp e
  subst e2
  have e1 := calm_some e1
  refine wpAny_bind (wpAny_mono (he.run pins s σ H (fun v H1 => ∃ F1, Grow F H F1 H1 ∧ Rep Y.K F1 v d) I ⟨F0, H0, ρ, F, A.sl, by rw [e1]; exact fun v F1 H1 g r => ⟨F1, g, r⟩⟩) (fun z s1 h => ?_) fun e s z => (hx e s z).elim)
  obtain ⟨v, H1, I1, r1, F1, g1, rp⟩ := h
  have A1 := A.up g1
  obtain ⟨acc, h1, ra⟩ := A1.own
  exact wpAny_bind (app_ok I1 h1 (by rw [sizeLine_eq, ra.len]; simp at few; omega) r1 fun s2 I2 => wpAny_pure ⟨F1, _, I2, g1.ff, A1.add h1 ra rp⟩)
/-- the begin of a clause behind the first -/
theorem begin_of {prog : Program} {w : World} {A : Around} {Z : Result → Shared → Prop} {s : Shared} {itv acc : Value} {env : PySem.Env} (nasy : ((clausesOf (.ListComp elt gens scope pos))[k]?).elim false (·.is_async != 0) = false)
    (h0 : codeAny (model prog w) A (.compLoop (.ListComp elt gens scope pos) k itv acc env) Z s) (h1 : wpAny (model prog w) A (pyIter itv) (fun it' s' => codeAny (model prog w) A (.compLoop (.ListComp elt gens scope pos) k it' acc env) Z s') (notedBy (model prog w) A env fun x s' => Z (.error x) s') s) :
    codeAny (model prog w) A (.compStart (.ListComp elt gens scope pos) k itv acc env) Z s := by
  refine codeAny_of_tree ?_
  show wpAny _ _ ((compStart (.ListComp elt gens scope pos) k itv acc env).onRaise fun x => do
    noteFrame x env
    standAt theWindowsPlace) _ _ s
  refine wpAny_notedAt ?_
  unfold compStart
  rw [nasy]
  show wpAny _ _ (ask >>= _) _ _ s
  refine wpAny_bind (wpAny_askSetting (wpAny_ite ?_))
  split
  · first
      | exact wpAny_bind (wpAny_pure (wpAny_pure ⟨rfl, h0⟩))
      | exact wpAny_pure ⟨rfl, h0⟩
  · refine wpAny_bind (wpAny_rule ?_)
    cases (clausesOf (.ListComp elt gens scope pos))[k]? with
    | none => exact wpAny_bind (wpAny_mono h1 (fun it' s' h => wpAny_pure ⟨rfl, h⟩) fun _ _ z => z)
    | some g =>
      show wpAny _ _ (standAt g.iter.pos >>= _) _ _ s
      exact wpAny_bind (wpAny_standAt (wpAny_bind (wpAny_mono h1 (fun it' s' h => wpAny_pure ⟨rfl, h⟩) fun _ _ z => z)))
/-- another clause within -/
theorem inner_next {fi : Env → R (List D)} {f : Env → List D → Option (List D)} (hx : ∀ e s, ¬ Y.xe e s) (nasy : ((clausesOf (.ListComp elt gens scope pos))[k]?).elim false (·.is_async != 0) = false)
    (hf : ∀ x, foldedSetIterable iter Y.env x = pure x) (hi : DI Y W tg iter fi) (lv : Lvl Y (.ListComp elt gens scope pos) k tg Dd js f) :
    Inner Y Dd (do
      let x ← eval iter Y.env
      standAt iter.pos
      let x ← foldedSetIterable iter Y.env x
      let _ ← runOwn (.compStart (.ListComp elt gens scope pos) k (← holding [x] (pyIter x)) (.ref Dd) Y.env) Y.env) js (fun ρ => (calm (fi ρ)).bind fun items => f (wipeE ρ js) items) := by
  intro pins s σ H Fb Hb F0 H0 ρ F dn out I A e few
  obtain ⟨items, e1, e2⟩ := Option.bind_eq_some_iff.mp e
  have e1 := calm_some e1
  have no : ∀ {E : Value → Shared → Prop} (e : Value) (s : Shared), Y.xe e s → E e s := fun e s z => (hx e s z).elim
  refine wpAny_bind (wpAny_mono (hi.run pins s σ H (fun J H1 => ∃ F1, Grow F H F1 H1 ∧ ItOk Y.K J F1 items) I ⟨F0, H0, ρ, F, A.sl, by rw [e1]; exact fun J F1 H1 g r => ⟨F1, g, r⟩⟩) (fun z s1 h => ?_) no)
  refine wpAny_bind (wpAny_standAt (wpAny_bind (wpAny_of_eq (hf z) (wpAny_bind (wpAny_holding (wpAny_mono h (fun itv s2 h2 => ?_) no))))))
  obtain ⟨it, fp, tn, J, H2, rfl, I2, T, st2, ff2, F2, g2, ok2⟩ := h2
  refine wpAny_bind (wpAny_runOwn ?_)
  rw [Around.mark_none]
  have lp := lv items J it fp tn pins s2 σ H2 Fb Hb F0 H0 ρ F2 dn out (fun r s' => match r with
      | .ok _ => ∃ F' H', Inv Y pins (L2.wipe σ js) H' s' ∧ Same F F' ∧ Acc Y.K Fb Hb F0 H0 (wipeE ρ js) (L2.wipe σ js) F' H' Dd (dn ++ out)
      | .error _ => False) T ok2 I2 st2 ff2 (A.up g2) e2 few fun F' H' s' I' sm A' => ⟨F', H', I', g2.ff.trans sm, A'⟩
  refine codeAny_mono (begin_of nasy lp (T.self Y.A 0 _ _ _ st2 lp)) fun r s' hr => ?_
  cases r with
  | ok fl =>
    first
      | exact wpAny_pure hr
      | exact wpAny_bind (wpAny_pure (wpAny_pure hr))
  | error e => exact hr.elim
end
section
variable {elt t0 i0 t1 i1 t2 i2 : Expr} {f0 f1 f2 : List Expr} {scope : Scope} {pos : Pos} {Dd : Addr} {env : PySem.Env}
/-- what the last clause does -/
abbrev rEl (elt : Expr) (Dd : Addr) (env : PySem.Env) : Sem Unit := do
  let _ ← call (.builtin "list.append") [.ref Dd, ← eval elt env]
/-- what a clause with another behind it does -/
abbrev rNx (LC : Expr) (k : Nat) (iter : Expr) (Dd : Addr) (env : PySem.Env) : Sem Unit := do
  let x ← eval iter env
  standAt iter.pos
  let x ← foldedSetIterable iter env x
  let _ ← runOwn (.compStart LC k (← holding [x] (pyIter x)) (.ref Dd) env) env
theorem reads1_0 : Reads (.ListComp elt [⟨t0, i0, f0, 0⟩] scope pos) 0 t0 i0.pos f0 Dd env (rEl elt Dd env) := fun it => by rfl
theorem reads2_0 : Reads (.ListComp elt [⟨t0, i0, f0, 0⟩, ⟨t1, i1, f1, 0⟩] scope pos) 0 t0 i0.pos f0 Dd env (rNx (.ListComp elt [⟨t0, i0, f0, 0⟩, ⟨t1, i1, f1, 0⟩] scope pos) 1 i1 Dd env) := fun it => by
  unfold rNx
  simp only [bind_assoc]
  rfl
theorem reads2_1 : Reads (.ListComp elt [⟨t0, i0, f0, 0⟩, ⟨t1, i1, f1, 0⟩] scope pos) 1 t1 i1.pos f1 Dd env (rEl elt Dd env) := fun it => by rfl
theorem reads3_0 : Reads (.ListComp elt [⟨t0, i0, f0, 0⟩, ⟨t1, i1, f1, 0⟩, ⟨t2, i2, f2, 0⟩] scope pos) 0 t0 i0.pos f0 Dd env (rNx (.ListComp elt [⟨t0, i0, f0, 0⟩, ⟨t1, i1, f1, 0⟩, ⟨t2, i2, f2, 0⟩] scope pos) 1 i1 Dd env) := fun it => by
  unfold rNx
  simp only [bind_assoc]
  rfl
theorem reads3_1 : Reads (.ListComp elt [⟨t0, i0, f0, 0⟩, ⟨t1, i1, f1, 0⟩, ⟨t2, i2, f2, 0⟩] scope pos) 1 t1 i1.pos f1 Dd env (rNx (.ListComp elt [⟨t0, i0, f0, 0⟩, ⟨t1, i1, f1, 0⟩, ⟨t2, i2, f2, 0⟩] scope pos) 2 i2 Dd env) := fun it => by
  unfold rNx
  simp only [bind_assoc]
  rfl
theorem reads3_2 : Reads (.ListComp elt [⟨t0, i0, f0, 0⟩, ⟨t1, i1, f1, 0⟩, ⟨t2, i2, f2, 0⟩] scope pos) 2 t2 i2.pos f2 Dd env (rEl elt Dd env) := fun it => by rfl
end
end DL
/-! DL13: the block of a comprehension of several clauses. -/
namespace DL
open PySem PySem.Spec PyProof.Rows L2
abbrev cElt (fe : Env → R D) : Env → Option (List D) := fun ρ => (calm (fe ρ)).map fun d => [d]
abbrev cNext (fi : Env → R (List D)) (js : List Nat) (f : Env → List D → Option (List D)) : Env → Option (List D) := fun ρ => (calm (fi ρ)).bind fun items => f (wipeE ρ js) items
section
variable {X : Cx} {W : Wish} {elt tg iter : Expr} {ifs : List Expr} {gs : List Comprehension} {scope : Scope} {own : List (Str × Nat)} {pos : Pos} {fi : Env → R (List D)} {js : List Nat} {f : Env → List D → Option (List D)}
theorem block_core {pins : List (Addr × Obj)} {s : Shared} {σ : L2.St} {H F0 H0 F : Hp} {ρ : Env} {out : List D} {items : List D} {pos' : Pos} {use : Option (Value → Sem Unit)} {Qf : Value → Shared → Prop} (hN : X.N.Nodup) (I : Inv X pins σ H s) (z : SL X.K F0 H0 ρ σ F H)
    (hi : DI X W tg iter fi) (ei : fi ρ = .ok items) (ok : BlkOk X.N X.env.scope scope own) (hs : ∀ x, foldedSetIterable iter X.env x = pure x)
    (lv : ∀ (s : Shared) (H : Hp) (C : Addr) (cl : List (Str × Addr)) (fp : List Addr) (Dd : Addr), Lvl (X.blk s H scope (compEnvC scope cl C X.env) fp) (.ListComp elt (⟨tg, iter, ifs, 0⟩ :: gs) scope pos) 0 tg Dd js f)
    (ef : f (wipeE (wipeE ρ (own.map (·.2))) js) items = some out) (few : out.length ≤ 16777216)
    (hQ : ∀ Dd C s' m F' H', Inv X pins σ H' s' → Grow F H F' H' → rF X.K F H F' H' (.ref Dd) out → s'.heap.Ns C m → FpOk X pins H' C → compPost (model X.prog X.w) X.A X.xe use Qf (.ref Dd) C (.ok .next) s') :
    wpAny (model X.prog X.w) X.A (comprehension (.ListComp elt (⟨tg, iter, ifs, 0⟩ :: gs) scope pos) scope X.env pos' (newList []) false (eval iter X.env) use) Qf X.xe s := by
  have fr : ∀ y ∈ scope.names, y.2 = .free → ∃ c, X.env.cells.lookup y.1 = some c := fun y hy e => (ok.free y hy e).elim (fun k => I.ok.has _ (.inl k)) fun k => I.ok.has _ (.inr k)
  refine wpAny_comprehension_free (use := use) rfl hs (closure_ok fr) ok.kind (fun y hy e => (ok.uniq y hy).trans (by rw [e])) ?_
  refine thn (hi.run pins s σ H (fun J H1 => ∃ F1, Grow F H F1 H1 ∧ ItOk X.K J F1 items) I ⟨F0, H0, ρ, F, z, by rw [ei]; exact fun J F1 H1 g r => ⟨F1, g, r⟩⟩) fun xv s1 hx => thn hx fun itv s2 h2 => ?_
  obtain ⟨it, fp, tn, J, H2, rfl, I2, T, st2, ff2, F2, g2, ok2⟩ := h2
  refine wpAny_newObj_type (newEnv_comp ?_) (by show 0 ≤ sizeLine; decide)
  have fresh : H2 s2.heap.objs.size = none := I2.hok.fresh (Nat.le_refl _)
  generalize hD : s2.heap.objs.size = Dd at *
  -- the list that is to grow
  generalize es3 : ({ s2 with heap := s2.heap.push { cls := .type "list", data := .seq ([] : List Value).toArray } } : Shared) = s3
  have h3 : s3.heap = s2.heap.push { cls := .type "list", data := .seq ([] : List Value).toArray } := by rw [← es3]
  have I3 : Inv X pins σ (upd H2 Dd (.lst [])) s3 := by
    rw [← es3]
    refine I2.laid (t' := s2.toks) (fun b o e => Heap.get?_push_of_some _ e) (Nat.le_of_eq hD) ⟨Nat.zero_le _, [], 0, .nil, ?_⟩
    rw [← hD]; exact Heap.get?_push_size _ rfl
  have z2 := z.up g2
  have aN : ∀ (i : Nat) (s : S), ρ[i]? = some (some s) → s.own = true → σ[i]? ≠ some (some (V.ref Dd)) := apart_new z2 fresh
  have fD : F2 Dd = none := z2.sub.out fresh
  have A3 : Acc X.K F H F0 H0 ρ σ F2 (upd H2 Dd (.lst [])) Dd [] := ⟨z2.poke fD (z2.grow.hh.free fresh) aN, g2.poke fD (g2.hh.free fresh), g2.hh.free fresh, fD, z2.grow.hh.free fresh, aN, [], upd_same, .nil⟩
  have ff3 : ∀ b ∈ fp, FpOk X pins (upd H2 Dd (.lst [])) b ∧ b < s3.heap.objs.size := fun b hb => by
    obtain ⟨o, eo, _⟩ := T.obj _ _ st2 b hb
    have lt := Heap.lt_size eo
    rw [hD] at lt
    exact ⟨⟨by rw [upd_ne (Nat.ne_of_lt lt)]; exact (ff2 b hb).1, (ff2 b hb).2⟩, by rw [h3, Heap.size_push, hD]; exact Nat.lt_succ_of_lt lt⟩
  have st3 : tn 0 s3.heap := T.keep _ _ _ st2 fun b _ o e => by rw [h3]; exact Heap.get?_push_of_some _ e
  have I4 := block_start I3 ok hN ff3
  have lvl := lv s3 (upd H2 Dd (.lst [])) s3.heap.objs.size (cellsFrom (s3.heap.objs.size + 1) scope.names (cloFrom X.env.cells scope.names [])) fp Dd
  show codeAny _ _ (.compStart (.ListComp elt (⟨tg, iter, ifs, 0⟩ :: gs) scope pos) 0 (.ref it) (.ref Dd) (compEnvC scope (cellsFrom (s3.heap.objs.size + 1) scope.names (cloFrom X.env.cells scope.names [])) s3.heap.objs.size X.env))
    (compPost (model X.prog X.w) X.A X.xe use Qf (.ref Dd) s3.heap.objs.size) { s3 with heap := pushCells (s3.heap.push { cls := .type "dict", data := .dict #[] }) scope.names }
  generalize ece : compEnvC scope (cellsFrom (s3.heap.objs.size + 1) scope.names (cloFrom X.env.cells scope.names [])) s3.heap.objs.size X.env = ce at I4 lvl ⊢
  have loc : ce.locals = s3.heap.objs.size := by subst ece; rfl
  generalize es4 : ({ s3 with heap := pushCells (s3.heap.push { cls := .type "dict", data := .dict #[] }) scope.names } : Shared) = s4 at I4 ⊢
  have st4 : tn 0 s4.heap := T.keep _ _ _ st3 fun b _ o e => by rw [← es4]; exact pushCells_keeps _ _ _ _ (Heap.get?_push_of_some _ e)
  have ff4 : ∀ b ∈ fp, FpOk (X.blk s3 (upd H2 Dd (.lst [])) scope ce fp) [] (upd H2 Dd (.lst [])) b := fun b hb =>
    ⟨(ff3 b hb).1.1, (I4.ok.exf b hb).1, I4.ok.exfs b hb, .inl hb, fun x c e => (I4.ok.exf b hb).2 x c e, fun p hp => absurd (show p ∈ ([] : List (Addr × Obj)) ++ [] from hp) (by simp)⟩
  have lp := lvl items J it fp tn [] s4 _ _ F H F0 H0 _ F2 [] out (compPost (model X.prog X.w) X.A X.xe use Qf (.ref Dd) s3.heap.objs.size) T ok2 I4 st4 ff4 (A3.wipe (own.map (·.2))) ef (by simpa using few) fun F' H' s' I' sm A' => by
    have Ib : Inv X pins σ H' s' := I3.call' (ch := fp) I'.os I'.base I'.hok I'.bare fun b hb => ⟨(ff3 b hb).1.2.2.2.1, (ff3 b hb).1.2.1, (ff3 b hb).1.2.2.2.2.1, (ff3 b hb).1.2.2.2.2.2⟩
    have nC : H' s3.heap.objs.size = none := by
      have q : H' ce.locals = none := I'.free
      rwa [loc] at q
    obtain ⟨m, hm, _⟩ := I'.loc
    have hm : s'.heap.Ns ce.locals m := hm
    rw [loc] at hm
    obtain ⟨acc, h1, r⟩ := A'.own
    rw [List.nil_append] at r
    exact hQ Dd s3.heap.objs.size s' m F' H' Ib A'.gb ⟨Dd, acc, rfl, g2.hh.free fresh, A'.f, h1, r⟩ hm (I3.fpOk (Nat.le_refl _) nC)
  exact codeAny_compStart_list lp (T.self X.A 0 _ _ _ st4 lp)
def lcB (f : Env → List D → Option (List D)) (vs js : List Nat) (ρ : Env) (items : List D) : Option (List D) := (f (wipeE (wipeE ρ vs) js) items).bind fun out => if out.length ≤ 16777216 then some out else none
theorem lcB_some {vs : List Nat} {ρ : Env} {items out : List D} (h : lcB f vs js ρ items = some out) : f (wipeE (wipeE ρ vs) js) items = some out ∧ out.length ≤ 16777216 := by
  obtain ⟨o, e1, e2⟩ := Option.bind_eq_some_iff.mp h
  split at e2
  · rename_i hl; cases e2; exact ⟨e1, hl⟩
  · cases e2
/-- as a value -/
theorem df_lcN (hN : X.N.Nodup) (hi : DI X W tg iter fi) (ok : BlkOk X.N X.env.scope scope own)
    (lv : ∀ (s : Shared) (H : Hp) (C : Addr) (cl : List (Str × Addr)) (fp : List Addr) (Dd : Addr), Lvl (X.blk s H scope (compEnvC scope cl C X.env) fp) (.ListComp elt (⟨tg, iter, ifs, 0⟩ :: gs) scope pos) 0 tg Dd js f)
    (hs : ∀ x, foldedSetIterable iter X.env x = pure x := by intro _; rfl) :
    DF X W (.ListComp elt (⟨tg, iter, ifs, 0⟩ :: gs) scope pos) (fun ρ => (fi ρ).bind fun items => R.of (lcB f (own.map (·.2)) js ρ items)) := by
  refine ⟨fun pins s σ H Q I ⟨F0, H0, ρ, F, z, h⟩ => ?_⟩
  rw [eval_ListComp]
  replace h : Post W (rF X.K) F H σ ((fi ρ).bind fun items => R.of (lcB f (own.map (·.2)) js ρ items)) Q := h
  cases ei : fi ρ with
  | stuck => rw [ei] at h; exact h.elim
  | err c =>
    rw [ei] at h
    refine wpAny_comprehension_free (use := none) rfl hs (closure_ok fun y hy e => (ok.free y hy e).elim (fun k => I.ok.has _ (.inl k)) fun k => I.ok.has _ (.inr k)) ok.kind (fun y hy e => (ok.uniq y hy).trans (by rw [e])) ?_
    refine thn (hi.run pins s σ H (fun J H1 => False) I ⟨F0, H0, ρ, F, z, by rw [ei]; exact h⟩) fun xv s1 hx => thn hx fun itv s2 h2 => ?_
    obtain ⟨_, _, _, _, _, _, _, _, _, _, q⟩ := h2
    exact q.elim
  | ok items =>
    rw [ei] at h
    obtain ⟨out, e, hF⟩ := post_of h
    obtain ⟨e1, e2⟩ := lcB_some e
    refine block_core hN I z hi ei ok hs lv e1 e2 fun Dd C s' m F' H' I' g r hn ff => ⟨m, hn, fun h'' sb => ?_⟩
    obtain ⟨f0, f1, f2, f3, f4, f5⟩ := ff
    exact ⟨.ref Dd, H', I'.turned (t' := s'.toks) (fun b o hb e => (sb.2 b hb).trans e) f0 f1 f3 f4 f5, rfl, hF _ _ _ g r⟩
/-- name = [..] on its line -/
theorem ps_lcN {i : Nat} {y : Str} {py spos : Pos} (hN : X.N.Nodup) (hy : X.N[i]? = some y) (hyl : X.env.scope.names.lookup y = some .local)
    (hsw : swapsWith (.ListComp elt (⟨tg, iter, ifs, 0⟩ :: gs) scope pos) (some (.Name y py)) spos.line X.env = pure true) (hi : DI X W tg iter fi) (ok : BlkOk X.N X.env.scope scope own)
    (lv : ∀ (s : Shared) (H : Hp) (C : Addr) (cl : List (Str × Addr)) (fp : List Addr) (Dd : Addr), Lvl (X.blk s H scope (compEnvC scope cl C X.env) fp) (.ListComp elt (⟨tg, iter, ifs, 0⟩ :: gs) scope pos) 0 tg Dd js f)
    (hs : ∀ x, foldedSetIterable iter X.env x = pure x := by intro _; rfl) :
    PS X (.Assign [.Name y py] (.ListComp elt (⟨tg, iter, ifs, 0⟩ :: gs) scope pos) spos) (tAsg (tG X.K W (rF X.K) (fun ρ => (fi ρ).bind fun items => R.of (lcB f (own.map (·.2)) js ρ items))) (gName i)) := by
  refine ⟨fun pins s σ H Dn I h => ?_⟩
  rw [exec_Assign_Name_used _ _ _ _ hsw]
  refine wpAny_bind (wpAny_standAt (wpAny_bind ?_))
  obtain ⟨F0, H0, ρ, F, z, h⟩ := h
  have h : Post W (rF X.K) F H σ ((fi ρ).bind fun items => R.of (lcB f (own.map (·.2)) js ρ items)) (fun x H1 => gName i x σ H1 Dn.nx) := h
  refine wpAny_bind (thn (Q := fun _ s' => SP X pins Dn .next s') ?_ fun _ s' hq => wpAny_pure (wpAny_pure hq))
  cases ei : fi ρ with
  | stuck => rw [ei] at h; exact h.elim
  | err c =>
    rw [ei] at h
    refine wpAny_comprehension_free (use := some (assign (.Name y py) X.env)) rfl hs (closure_ok fun y hy e => (ok.free y hy e).elim (fun k => I.ok.has _ (.inl k)) fun k => I.ok.has _ (.inr k)) ok.kind (fun y hy e => (ok.uniq y hy).trans (by rw [e])) ?_
    refine thn (hi.run pins s σ H (fun J H1 => False) I ⟨F0, H0, ρ, F, z, by rw [ei]; exact h⟩) fun xv s1 hx => thn hx fun itv s2 h2 => ?_
    obtain ⟨_, _, _, _, _, _, _, _, _, _, q⟩ := h2
    exact q.elim
  | ok items =>
    rw [ei] at h
    obtain ⟨out, e, hF⟩ := post_of h
    obtain ⟨e1, e2⟩ := lcB_some e
    refine block_core (use := some (assign (.Name y py) X.env)) hN I z hi ei ok hs lv e1 e2 fun Dd C s' m F' H' I' g r hn ff => ?_
    show wpAny _ _ (assign (.Name y py) X.env (.ref Dd)) _ _ _
    refine wpAny_assign_Name (store_ok2 (v := V.ref Dd) I' hN hy (.inl hyl) rfl (fun s2 I2 ⟨a, sb, ha⟩ => ?_) (.inr hyl))
    obtain ⟨f0, f1, f2, f3, f4, f5⟩ := ff
    have hCa : C ≠ a := ha.elim (fun q => by rw [q]; exact f1) fun q e => f4 y a q e.symm
    refine ⟨m, hn.sameBut sb hCa, fun h3 sb3 => ?_⟩
    exact ⟨_, H', I2.turned (t' := s2.toks) (fun b o hb e => (sb3.2 b hb).trans e) f0 f1 f3 f4 f5, hF _ _ _ g r⟩
end
abbrev lLcN (vs js : List Nat) (f : Env → List D → Option (List D)) (fi : Env → R (List D)) : Env → R (List D) := fun ρ => (fi ρ).bind fun items => R.of (lcB f vs js ρ items)
end DL
/-! DL14: len(set(texts)). -/
namespace DL
open PySem PySem.Spec PyProof.Rows L2
def dcnt (xs : List Str) : Nat → Nat
  | 0 => 0
  | i + 1 => if (xs.take i).any (· == xs.getD i Str.empty) = true then dcnt xs i else dcnt xs i + 1
theorem dcnt_le (xs : List Str) : ∀ i, dcnt xs i ≤ i
  | 0 => Nat.le_refl _
  | i + 1 => by
    unfold dcnt
    have := dcnt_le xs i
    split <;> omega
def emptySet (led : Bool) : Obj := { cls := .type "set", dict := none, data := .set #[] 0 (.fresh 0 0 led) }
section
variable {prog : Program} {w : World} {A : Around} {Z : Result → Shared → Prop} {ia : Addr} {fp wr : List Addr} {Gs : Array GenState → Array GenState → Prop} {n : Nat} {Pv : Nat → Value → Prop} {St : Nat → Shared → Prop}
theorem setLoop (W : WalksS prog w A.in1 ia fp wr Gs n Pv St) (Sa : Addr) (far : Sa ∉ fp) (xs : List Str) (len : xs.length = n) (few : n < 4000) (txt : ∀ i v, Pv i v → ∃ t, v = .str (xs.getD i Str.empty) t) :
    ∀ (k i : Nat) (s : Shared), n - i = k → i ≤ n → St i s → s.heap.SetOf (PySem.strKind prog w) Sa (fun z => (xs.take i).any (· == z)) (dcnt xs i) →
      (∀ s', Moved (Sa :: wr) Gs s s' → s'.heap.SetOf (PySem.strKind prog w) Sa (fun z => (xs.take n).any (· == z)) (dcnt xs n) → Z (.ok (.ret .none)) s') →
      codeAny (model prog w) A (.builtin "set.update.loop" ⟨[.ref Sa, .ref ia], []⟩) Z s := by
  have nw : Sa ∉ wr := fun q => far (W.sub _ q)
  have more : ∀ b ∈ wr, b ∈ Sa :: wr := fun b q => List.mem_cons_of_mem _ q
  intro k
  induction k with
  | zero =>
    intro i s ek hi st hS fin
    obtain rfl : i = n := by omega
    refine codeAny_builtin PyProof.Rows.F.entry_set_update_loop ?_
    rw [Around.under_plainId PyProof.Rows.F.plain_set_update_loop _]
    show wpAny _ A.in1 (pyNext (.ref ia) >>= _) _ _ s
    refine wpAny_bind (W.done s _ _ st fun s1 mv => ?_)
    show wpAny _ A.in1 (ret Value.none) _ _ s1
    refine wpAny_pure (fin s1 (mv.mono more) ?_)
    obtain ⟨ob, es, ep, tb, g, tail⟩ := hS
    exact ⟨ob, es, ep, tb, mv.heap Sa _ nw g, tail⟩
  | succ k ih =>
    intro i s ek hi st hS fin
    have lt : i < n := by omega
    refine codeAny_builtin PyProof.Rows.F.entry_set_update_loop ?_
    rw [Around.under_plainId PyProof.Rows.F.plain_set_update_loop _]
    show wpAny _ A.in1 (pyNext (.ref ia) >>= _) _ _ s
    refine wpAny_bind (W.item i s _ _ lt st fun v s1 pv st1 mv => ?_)
    obtain ⟨tt, rfl⟩ := txt i v pv
    have hS1 : s1.heap.SetOf (PySem.strKind prog w) Sa (fun z => (xs.take i).any (· == z)) (dcnt xs i) := by
      obtain ⟨ob, es, ep, tb, g, tail⟩ := hS
      exact ⟨ob, es, ep, tb, mv.heap Sa _ nw g, tail⟩
    generalize ex : xs.getD i Str.empty = x at *
    show wpAny _ A.in1 (holding [Value.str x tt] (setAdd Sa (.str x tt)) >>= _) _ _ s1
    refine wpAny_bind (wpAny_holding ?_)
    unfold setAdd
    refine wpAny_holding (wpAny_bind ((PySem.strKind prog w).pyHash (k := x) (strKind_is _ _ _ _) ?_))
    have room : dcnt xs i + 1 < scanBound := by have := dcnt_le xs i; unfold scanBound; omega
    refine wpAny_setAddHashed_of (knd := PySem.strKind prog w) (s := { s1 with toks := s1.toks + 1 }) (strKind_is _ _ _ _) rfl hS1 room fun h2 sb hS2 => ?_
    have hS3 : h2.SetOf (PySem.strKind prog w) Sa (fun z => (xs.take (i + 1)).any (· == z)) (dcnt xs (i + 1)) := by
      refine SetOf_congr hS2 (fun z => ?_) (by rw [show dcnt xs (i + 1) = if (xs.take i).any (· == xs.getD i Str.empty) = true then dcnt xs i else dcnt xs i + 1 from rfl, ex])
      have lt2 : i < xs.length := by omega
      have ei : xs[i]? = some x := by rw [← ex, List.getD_eq_getElem?_getD, List.getElem?_eq_getElem lt2]; rfl
      rw [List.take_add_one, ei]
      show ((xs.take i).any (· == z) || decide (z = x)) = (xs.take i ++ [x]).any (· == z)
      rw [List.any_append]
      congr 1
      show decide (z = x) = ((x == z) || false)
      rw [Bool.or_false]
      by_cases e : z = x
      · subst e; simp
      · rw [decide_eq_false e]; exact (beq_eq_false_iff_ne.mpr fun q => e q.symm).symm
    refine wpAny_pure ⟨plainId_quiet PyProof.Rows.F.plain_set_update_loop _, ih (i + 1) _ (by omega) lt (W.frame _ s1 _ _ st1 (Nat.le_succ _) fun b hb o e => ?_) hS3 fun s3 mv3 hS4 => ?_⟩
    · rw [sb.2 b fun q : b = Sa => far (by rw [← q]; exact hb)]; exact e
    · refine fin s3 (Moved.trans W.gtrans ((mv.mono more).then_heap (Nat.le_succ _) fun b o hb e => ?_) mv3) hS4
      rw [sb.2 b fun q : b = Sa => hb (by rw [q]; exact List.mem_cons_self)]; exact e
end

set_option maxHeartbeats 3200000 in
theorem set_of_list {prog : Program} {w : World} {A : Around} {E Q : Value → Shared → Prop} {s : Shared} {la : Addr} {vals : Array Value} {xs : List Str} (quiet : A.handled = none) (isq : s.heap.IsList la vals) (txt : PyProof.Rows.StrsAre vals.toList xs) (few : xs.length < 4000)
    (post : ∀ (h' : Heap) (tk : Nat), h'.SetOf (PySem.strKind prog w) s.heap.objs.size (fun z => (xs.take vals.size).any (· == z)) (dcnt xs vals.size) → (∀ b o, b < s.heap.objs.size → s.heap.get? b = some o → h'.get? b = some o) → Q (.ref s.heap.objs.size) { s with heap := h', toks := tk }) :
    wpAny (model prog w) A (call (.type "set") [.ref la]) Q E s := by
  have ⟨c0, tl0, mro0⟩ := PySem.F.called_set.mro
  have made0 := PySem.F.called_set.made
  have sub0 := PySem.F.called_set.sub
  refine wpAny_call (codeAny_of_tree ?_)
  show wpAny _ _ (callAny (.type "set") _) _ _ _
  refine wpAny_pure ⟨Code.quiet_builtin _ (by decide +kernel), codeAny_builtin PySem.F.entry_type_call ?_⟩
  rw [Around.under_plain (weight_type_call_type "set" [.ref la] []) rfl]
  have nt0 := PySem.F.called_set.notType
  have cc0 := PySem.F.called_set.canCreate
  have tc0 := PySem.F.typeCall_set_1 (.ref la)
  repeat (any_goals (first | assumption | wp_step))
  refine codeAny_mono (code_set_new_1 (.ref la) (E := E) (Q₁ := fun ob s1 => ∃ led : Bool, ob = .ref s.heap.objs.size ∧ s1 = { s with heap := s.heap.push (emptySet led) }) fun led => ⟨led, rfl, rfl⟩) fun r s1 hr => ?_
  cases r with
  | error e => exact hr
  | ok fl =>
  cases fl with
  | ret ob =>
    obtain ⟨led, rfl, rfl⟩ := hr
    have gS : (s.heap.push (emptySet led)).get? s.heap.objs.size = some (emptySet led) := Heap.get?_push_size _ rfl
    have tS : Shared.TypeIs { s with heap := s.heap.push (emptySet led) } (.ref s.heap.objs.size) "set" := ⟨_, gS, rfl⟩
    have il := PySem.F.called_set.init.lookup
    have ib := PySem.F.called_set.init.bind (.ref s.heap.objs.size)
    repeat (any_goals (first | assumption | wp_step))
    refine codeAny_mono (codeAny_call_builtin (R := wants (fun r s2 => r = .none ∧ ∃ h' tk, s2 = { s with heap := h', toks := tk } ∧ h'.SetOf (PySem.strKind prog w) s.heap.objs.size (fun z => (xs.take vals.size).any (· == z)) (dcnt xs vals.size) ∧
        (∀ b o, b < s.heap.objs.size → s.heap.get? b = some o → h'.get? b = some o)) E) PySem.F.called_set.init.plain PySem.F.entry_set_init (check_set_init_1 tS ?_)) fun r2 s2 hr2 => ?_
    · obtain ⟨⟨ocls, odct, odat, oslt⟩, gl, hcl, cap, hdl⟩ := isq
      simp only at hcl hdl
      subst hcl hdl
      have gl1 : (s.heap.push (emptySet led)).get? la = some { cls := .type "list", dict := odct, data := .seq vals cap, slots := oslt } := Heap.get?_push_of_some _ gl
      have ss1 := PySem.F.sub_list_set
      have ss2 := PySem.F.sub_list_frozenset
      have nd : (Value.type "list" == Value.type "dict") = false := by decide
      have isq1 : (s.heap.push (emptySet led)).IsList la vals := ⟨_, gl1, rfl, cap, rfl⟩
      unfold Builtin.«set.__init__» noKeywords Builtin.Frozenset.updateFrom
      generalize eIt : pyIter = theIter
      wp_walk
      subst eIt
      refine wpAny_pyIter_list isq1 ?_
      refine wpAny_bind (wpAny_runValue ?_)
      have ltl : la < s.heap.objs.size := Heap.lt_size gl
      have quiet3 : A.in1.in1.in1.handled = none := by simp [quiet]
      have psz : (s.heap.push (emptySet led)).objs.size = s.heap.objs.size + 1 := Heap.size_push ..
      have la_ne : la ≠ (s.heap.push (emptySet led)).objs.size := by rw [psz]; exact Nat.ne_of_lt (Nat.lt_succ_of_lt ltl)
      have S_out : s.heap.objs.size ∉ [(s.heap.push (emptySet led)).objs.size, la] := by
        rw [psz]; exact out2 (Nat.ne_of_lt (Nat.lt_succ_self _)) (Nat.ne_of_gt ltl)
      have lens : xs.length = vals.size := by rw [← PyProof.Rows.StrsAre.len_eq txt, Array.length_toList]
      refine setLoop ((Walks.list quiet3 _ la la_ne vals).toS) s.heap.objs.size S_out xs lens (by omega) (fun i v hv => SS.strs_at txt i v (by rw [Array.getElem?_toList]; exact hv)) (vals.size - 0) 0 _ (by omega) (Nat.zero_le _)
        ⟨⟨_, Heap.get?_push_size _ rfl, rfl, rfl⟩, isq1.push _⟩ ?begin ?finish
      case begin =>
        exact PyProof.Rows.SetOf_congr ((PyProof.Rows.setObjOf_fresh (knd := PySem.strKind prog w) led).setOf (Heap.get?_push_of_some _ gS) (by unfold scanBound; omega)) (fun _ => rfl) rfl
      case finish =>
        rintro ⟨h', g', d', tk', os'⟩ mv hS'
        obtain rfl : g' = s.gens := mv.gens
        obtain rfl : d' = s.drawn := mv.drawn
        obtain rfl : os' = s.os := mv.os
        show wpAny _ _ _ _ _ _
        refine wpAny_pure ?_
        show wpAny _ _ (ret Value.none) _ _ _
        refine wpAny_pure ⟨rfl, h', tk', rfl, hS', fun b o hb e => ?_⟩
        refine mv.heap b o (fun q => ?_) (Heap.get?_push_of_some _ (Heap.get?_push_of_some _ e))
        rw [psz] at q
        exact out2 (Nat.ne_of_lt hb) (Nat.ne_of_lt (Nat.lt_succ_of_lt hb)) q
    · cases r2 with
      | error e => exact hr2
      | ok fl2 =>
        cases fl2 with
        | ret r =>
          obtain ⟨rfl, h', tk, rfl, hS', hk'⟩ := hr2
          repeat (any_goals (first | assumption | wp_step))
          exact post _ _ hS' hk'
        | _ => exact hr2.elim
  | _ => exact hr.elim

set_option maxHeartbeats 3200000 in
theorem set_of_tuple {prog : Program} {w : World} {A : Around} {E Q : Value → Shared → Prop} {s : Shared} {la : Addr} {vals : Array Value} {xs : List Str} (quiet : A.handled = none) (isq : s.heap.IsTuple la vals) (txt : PyProof.Rows.StrsAre vals.toList xs) (few : xs.length < 4000)
    (post : ∀ (h' : Heap) (tk : Nat), h'.SetOf (PySem.strKind prog w) s.heap.objs.size (fun z => (xs.take vals.size).any (· == z)) (dcnt xs vals.size) → (∀ b o, b < s.heap.objs.size → s.heap.get? b = some o → h'.get? b = some o) → Q (.ref s.heap.objs.size) { s with heap := h', toks := tk }) :
    wpAny (model prog w) A (call (.type "set") [.ref la]) Q E s := by
  have ⟨c0, tl0, mro0⟩ := PySem.F.called_set.mro
  have made0 := PySem.F.called_set.made
  have sub0 := PySem.F.called_set.sub
  refine wpAny_call (codeAny_of_tree ?_)
  show wpAny _ _ (callAny (.type "set") _) _ _ _
  refine wpAny_pure ⟨Code.quiet_builtin _ (by decide +kernel), codeAny_builtin PySem.F.entry_type_call ?_⟩
  rw [Around.under_plain (weight_type_call_type "set" [.ref la] []) rfl]
  have nt0 := PySem.F.called_set.notType
  have cc0 := PySem.F.called_set.canCreate
  have tc0 := PySem.F.typeCall_set_1 (.ref la)
  repeat (any_goals (first | assumption | wp_step))
  refine codeAny_mono (code_set_new_1 (.ref la) (E := E) (Q₁ := fun ob s1 => ∃ led : Bool, ob = .ref s.heap.objs.size ∧ s1 = { s with heap := s.heap.push (emptySet led) }) fun led => ⟨led, rfl, rfl⟩) fun r s1 hr => ?_
  cases r with
  | error e => exact hr
  | ok fl =>
  cases fl with
  | ret ob =>
    obtain ⟨led, rfl, rfl⟩ := hr
    have gS : (s.heap.push (emptySet led)).get? s.heap.objs.size = some (emptySet led) := Heap.get?_push_size _ rfl
    have tS : Shared.TypeIs { s with heap := s.heap.push (emptySet led) } (.ref s.heap.objs.size) "set" := ⟨_, gS, rfl⟩
    have il := PySem.F.called_set.init.lookup
    have ib := PySem.F.called_set.init.bind (.ref s.heap.objs.size)
    repeat (any_goals (first | assumption | wp_step))
    refine codeAny_mono (codeAny_call_builtin (R := wants (fun r s2 => r = .none ∧ ∃ h' tk, s2 = { s with heap := h', toks := tk } ∧ h'.SetOf (PySem.strKind prog w) s.heap.objs.size (fun z => (xs.take vals.size).any (· == z)) (dcnt xs vals.size) ∧
        (∀ b o, b < s.heap.objs.size → s.heap.get? b = some o → h'.get? b = some o)) E) PySem.F.called_set.init.plain PySem.F.entry_set_init (check_set_init_1 tS ?_)) fun r2 s2 hr2 => ?_
    · obtain ⟨⟨ocls, odct, odat, oslt⟩, gl, hcl, cap, hdl⟩ := isq
      simp only at hcl hdl
      subst hcl hdl
      have gl1 : (s.heap.push (emptySet led)).get? la = some { cls := .type "tuple", dict := odct, data := .seq vals cap, slots := oslt } := Heap.get?_push_of_some _ gl
      have ss1 := PySem.F.sub_tuple_set
      have ss2 := PySem.F.sub_tuple_frozenset
      have nd : (Value.type "tuple" == Value.type "dict") = false := by decide
      have isq1 : (s.heap.push (emptySet led)).IsTuple la vals := ⟨_, gl1, rfl, cap, rfl⟩
      unfold Builtin.«set.__init__» noKeywords Builtin.Frozenset.updateFrom
      generalize eIt : pyIter = theIter
      wp_walk
      subst eIt
      refine wpAny_pyIter_tuple isq1 ?_
      refine wpAny_bind (wpAny_runValue ?_)
      have ltl : la < s.heap.objs.size := Heap.lt_size gl
      have quiet3 : A.in1.in1.in1.handled = none := by simp [quiet]
      have psz : (s.heap.push (emptySet led)).objs.size = s.heap.objs.size + 1 := Heap.size_push ..
      have la_ne : la ≠ (s.heap.push (emptySet led)).objs.size := by rw [psz]; exact Nat.ne_of_lt (Nat.lt_succ_of_lt ltl)
      have S_out : s.heap.objs.size ∉ [(s.heap.push (emptySet led)).objs.size, la] := by
        rw [psz]; exact out2 (Nat.ne_of_lt (Nat.lt_succ_self _)) (Nat.ne_of_gt ltl)
      have lens : xs.length = vals.size := by rw [← PyProof.Rows.StrsAre.len_eq txt, Array.length_toList]
      refine setLoop ((Walks.tuple quiet3 _ la la_ne vals).toS) s.heap.objs.size S_out xs lens (by omega) (fun i v hv => SS.strs_at txt i v (by rw [Array.getElem?_toList]; exact hv)) (vals.size - 0) 0 _ (by omega) (Nat.zero_le _)
        ⟨⟨_, Heap.get?_push_size _ rfl, rfl, rfl⟩, isq1.push _⟩ ?begin ?finish
      case begin =>
        exact PyProof.Rows.SetOf_congr ((PyProof.Rows.setObjOf_fresh (knd := PySem.strKind prog w) led).setOf (Heap.get?_push_of_some _ gS) (by unfold scanBound; omega)) (fun _ => rfl) rfl
      case finish =>
        rintro ⟨h', g', d', tk', os'⟩ mv hS'
        obtain rfl : g' = s.gens := mv.gens
        obtain rfl : d' = s.drawn := mv.drawn
        obtain rfl : os' = s.os := mv.os
        show wpAny _ _ _ _ _ _
        refine wpAny_pure ?_
        show wpAny _ _ (ret Value.none) _ _ _
        refine wpAny_pure ⟨rfl, h', tk', rfl, hS', fun b o hb e => ?_⟩
        refine mv.heap b o (fun q => ?_) (Heap.get?_push_of_some _ (Heap.get?_push_of_some _ e))
        rw [psz] at q
        exact out2 (Nat.ne_of_lt hb) (Nat.ne_of_lt (Nat.lt_succ_of_lt hb)) q
    · cases r2 with
      | error e => exact hr2
      | ok fl2 =>
        cases fl2 with
        | ret r =>
          obtain ⟨rfl, h', tk, rfl, hS', hk'⟩ := hr2
          repeat (any_goals (first | assumption | wp_step))
          exact post _ _ hS' hk'
        | _ => exact hr2.elim
  | _ => exact hr.elim

/-! ### over data -/
def oStrs (x : D) : Option (List Str) := (oSeq x).bind fun p => strs? p.2
def oLenSet (x : D) : Option D := (oStrs x).bind fun xs => if xs.length < 4000 then some (.int (dcnt xs xs.length)) else none
def tLS (K : KF) (ta : TE) : TE := fun σ H Q => ta σ H fun x H1 => ∃ b l, ∃ xs : List Str, x = .ref l ∧ SqG K H1 b l (xs.map V.str) ∧ xs.length < 4000 ∧ Q (.int (dcnt xs xs.length)) H1
section
variable {X : Cx} {W : Wish}
theorem pe_LS {a : Expr} {ta : TE} {p p2 q pos : Pos} (hc : X.calm = true) (hg : Gl X "len") (hm : X.mg "len" = none) (hg2 : Gl X "set") (hm2 : X.mg "set" = none) (ha : PE X a ta)
    (na : starEach [a] X.env = (false, eval a X.env) :: starEach [] X.env := by rfl) : PE X (.Call (.Name "len" p) [.Call (.Name "set" p2) [a] [] q] [] pos) (tLS X.K ta) := by
  refine ⟨fun pins s σ H Q I h => ?_⟩
  refine Call_ (ld_blt I hg hm boot_len ?_)
  refine PyProof.Rows.callWith_builtin1 (PyProof.Rows.args_cons ?_ rfl) rfl rfl
  refine Call_ (ld_blt I hg2 hm2 boot_set ?_)
  refine PyProof.Rows.callWith_type1 (PyProof.Rows.args_cons (thn (ha.run pins s σ H _ I h) fun v s1 ⟨x, H1, I1, r1, q1⟩ => PyProof.Rows.args_nil ?_) na) na rfl
  obtain ⟨b, l, xs, rfl, hq, few, q1⟩ := q1
  cases r1
  obtain ⟨its, rv, p1⟩ := inv_G I1 hq
  have len : its.toArray.size = xs.length := by rw [List.size_toArray, ← rv.length, List.length_map]
  have fin : ∀ (h' : Heap) (tk : Nat), h'.SetOf (PySem.strKind X.prog X.w) s1.heap.objs.size (fun z => (xs.take its.toArray.size).any (· == z)) (dcnt xs its.toArray.size) →
      (∀ b o, b < s1.heap.objs.size → s1.heap.get? b = some o → h'.get? b = some o) →
      wpAny (model X.prog X.w) X.A (spliced (backTo pos (starEach [] X.env))) (fun vs s2 => wpAny (model X.prog X.w) X.A (call (.builtin "len") (Value.ref s1.heap.objs.size :: vs)) (EP X pins σ Q) X.xe s2) X.xe { s1 with heap := h', toks := tk } := fun h' tk hS hk => by
    refine PyProof.Rows.args_nil ?_
    rw [len] at hS
    obtain ⟨o, es, ep, t, ho, hex, hd, _, _, _, hf, hn⟩ := hS
    have I2 : Inv X pins σ H1 { s1 with heap := h', toks := tk } := I1.kept fun b o e => hk b o (Heap.lt_size e) e
    have dl := dcnt_le xs xs.length
    exact call_len_set ho hex hd hf (by rw [hn]; omega) ⟨.int (dcnt xs xs.length), H1, I2.tok _, ⟨_, by rw [hn]⟩, q1⟩
  cases b with
  | true => exact set_of_list (I1.ok.hd hc) p1 (by simpa using strsAre_of rv) few fin
  | false => exact set_of_tuple (I1.ok.hd hc) p1 (by simpa using strsAre_of rv) few fin
theorem dv_lenSet {a : Expr} {fa : Env → R D} {p p2 q pos : Pos} (hc : X.calm = true) (hg : Gl X "len") (hg2 : Gl X "set") (hm : X.mg "len" = none) (hm2 : X.mg "set" = none) (ha : DB X W a fa)
    (na : starEach [a] X.env = (false, eval a X.env) :: starEach [] X.env := by rfl) : DV X W (.Call (.Name "len" p) [.Call (.Name "set" p2) [a] [] q] [] pos) (fun ρ => (fa ρ).bind fun x => R.of (oLenSet x)) :=
  (pe_LS hc hg hm hg2 hm2 ha na).weak fun σ H Q ⟨F0, H0, ρ, F, z, h⟩ => post_bind z rV_early h fun F1 H1 v x z1 g1 r1 h => by
    obtain ⟨d, e, hF⟩ := post_of h
    obtain ⟨xs, e1, e2⟩ := Option.bind_eq_some_iff.mp e
    obtain ⟨⟨b, ds⟩, e3, e4⟩ := Option.bind_eq_some_iff.mp e1
    split at e2
    · rename_i few
      cases e2
      have key : ∃ b a, v = .ref a ∧ SqG X.K H1 b a (xs.map V.str) := by
        cases r1 with
        | rep r1 =>
          obtain ⟨a, vs, rfl, s1, q1⟩ := rep_sq r1 e3
          rw [← q1.strs e4]
          exact ⟨b, a, rfl, SqG.up z1.sub s1⟩
        | lst h1 q1 =>
          cases e3
          rw [← q1.strs e4]
          exact ⟨true, _, rfl, SqL.of h1⟩
        | dct h1 q1 => cases e3
        | ins h1 c1 q1 => cases e3
      obtain ⟨b, a, rfl, s1⟩ := key
      exact ⟨b, a, xs, rfl, s1, few, hF _ _ _ (Grow.refl z1.sub) (.int _)⟩
    · cases e2
end
end DL
/-! DL15: own instances, own dicts; a class's objects made. -/
namespace DL
open PySem PySem.Spec PyProof.Rows L2

/-! ### attributes -/
def putD (f : Str) (d : D) : List (Str × D) → List (Str × D)
  | [] => [(f, d)]
  | (g, x) :: r => if g = f then (g, d) :: r else (g, x) :: putD f d r
def putE {κ : Type} [DecidableEq κ] (kvs : List (κ × D)) (k : κ) (v : D) : List (κ × D) :=
  if (kvs.any fun kv => decide (kv.1 = k)) = true then kvs.map (fun kv => if kv.1 = k then (kv.1, v) else kv) else kvs ++ [(k, v)]
section
variable {K : KF} {F F' H H' F0 H0 : Hp} {f : Str} {v : V} {d : D}
theorem RepF.put (rv : Rep K F v d) : ∀ {es : List (Str × V)} {fs : List (Str × D)}, RepF K F es fs → RepF K F (putF f v es) (putD f d fs)
  | _, _, .nil => .cons rv .nil
  | _, _, .cons (f := g) a t => by
    unfold putF putD
    split
    · exact .cons rv t
    · exact .cons a (RepF.put rv t)
theorem RepF.len : ∀ {vs : List (Str × V)} {ds : List (Str × D)}, RepF K F vs ds → vs.length = ds.length
  | _, _, .nil => rfl
  | _, _, .cons _ t => by rw [List.length_cons, List.length_cons, RepF.len t]
theorem keys_putD {g : Str} : ∀ {fs : List (Str × D)}, g ∈ (putD f d fs).map (·.1) → g = f ∨ g ∈ fs.map (·.1)
  | [], h => by simp [putD] at h; exact .inl h
  | (k, x) :: r, h => by
    unfold putD at h
    split at h
    · exact .inr h
    · rcases List.mem_cons.mp h with h | h
      · exact .inr (List.mem_cons.mpr (.inl h))
      · rcases keys_putD h with h | h
        · exact .inl h
        · exact .inr (List.mem_cons.mpr (.inr h))
theorem RepK.any {k : List Key} : ∀ {es : List (List Key × V)} {kvs : List (List Key × D)}, RepK K F es kvs → (es.any fun kv => decide (kv.1 = k)) = (kvs.any fun kv => decide (kv.1 = k))
  | _, _, .nil => rfl
  | _, _, .cons _ t => by rw [List.any_cons, List.any_cons, RepK.any t]
theorem RepK.mapSet {k : List Key} (rv : Rep K F v d) : ∀ {es : List (List Key × V)} {kvs : List (List Key × D)}, RepK K F es kvs → RepK K F (es.map fun kv => if kv.1 = k then (kv.1, v) else kv) (kvs.map fun kv => if kv.1 = k then (kv.1, d) else kv)
  | _, _, .nil => .nil
  | _, _, .cons (f := g) a t => by
    rw [List.map_cons, List.map_cons]
    by_cases h : g = k
    · simp only [h, if_pos]; exact .cons rv (RepK.mapSet rv t)
    · simp only [h, if_neg, not_false_eq_true]; exact .cons a (RepK.mapSet rv t)
theorem RepK.app : ∀ {vs ws : List (List Key × V)} {ds es : List (List Key × D)}, RepK K F vs ds → RepK K F ws es → RepK K F (vs ++ ws) (ds ++ es)
  | _, _, _, _, .nil, h => h
  | _, _, _, _, .cons a t, h => .cons a (RepK.app t h)
theorem RepK.put {k : List Key} (rv : Rep K F v d) {es : List (List Key × V)} {kvs : List (List Key × D)} (r : RepK K F es kvs) : RepK K F (putK es k v) (putE kvs k d) := by
  unfold putK putE
  rw [r.any]
  split
  · exact r.mapSet rv
  · exact r.app (.cons rv .nil)
end

/-! ### an object of one's own is written -/
/-- any own slot's object is written over -/
theorem SL.updOwn {K : KF} {F0 H0 F H : Hp} {ρ : Env} {σ : L2.St} (z : SL K F0 H0 ρ σ F H) {i : Nat} {s s' : S} {a : Addr} {o : HO} (q : ρ[i]? = some (some s)) (os : s.own = true) (os' : s'.own = true) (e1 : σ[i]? = some (some (.ref a))) (h0 : H0 a = none) (hf : F a = none)
    (ok : ∀ H', H' a = some o → SlotOk K H0 F H' s' (.ref a)) :
    SL K F0 H0 (ρ.set i (some s')) σ F (upd H a o) := by
  have ap : ∀ (j : Nat) (t : S), ρ[j]? = some (some t) → t.own = true → j ≠ i → σ[j]? ≠ some (some (V.ref a)) := fun j t e3 o3 hj e4 => z.apart j i t _ a hj e3 q o3 os e4 e1
  have hi : i < ρ.length := (List.getElem?_eq_some_iff.mp q).1
  have z2 : SL K F0 H0 (ρ.set i none) (σ.set i none) F H := z.wipe [i]
  have z3 := z2.poke (o := o) hf h0 fun j t e3 o3 e4 => by
    by_cases hj : i = j
    · subst hj
      rw [List.getElem?_set_self hi] at e3
      cases e3
    · rw [List.getElem?_set_ne hj] at e3 e4
      exact ap j t e3 o3 (Ne.symm hj) e4
  have z4 := z3.setS i (v := .ref a) (s := s') (ok _ upd_same) fun _ j t b hj e3 o3 eb e4 => by
    cases eb
    rw [List.getElem?_set_ne (Ne.symm hj)] at e3 e4
    exact ap j t e3 o3 hj e4
  rw [List.set_set, List.set_set] at z4
  have es : σ.set i (some (.ref a)) = σ := by
    apply List.ext_getElem?
    intro j
    by_cases hj : i = j
    · subst hj
      rw [List.getElem?_set_self (by rw [z.len]; exact hi), e1]
    · rw [List.getElem?_set_ne hj]
  rw [es] at z4
  exact z4

section
variable {X : Cx} {W : Wish} {st : Stmt} {pos pos' : Pos} {e : Expr}
abbrev sFldM (i : Nat) (f : Str) (fe : Env → R D) : Env → Option Out := fun ρ => withR (fe ρ) ρ fun d => match ρ[i]? with
  | some (some (.ob a n all fs)) => if f ∈ all ∧ fs.length < 1000 then some (.nx (ρ.set i (some (.ob a n all (putD f d fs))))) else none
  | _ => none
/-- self.f = e, self an instance of one's own -/
theorem ds_fld (i : Nat) {x f : Str} {p : Pos} {fe : Env → R D} (hv : PE X (.Name x p) (tVar i)) (he : DV X W e fe) (hs : swapsWith e (some (.Attribute (.Name x p) f pos')) pos.line X.env = pure false := by rfl) :
    DS X W (.Assign [.Attribute (.Name x p) f pos'] e pos) (sFldM i f fe) := (ps_fld hv he hs).weak fun D σ H ⟨F0, H0, ρ, F, o, z, e, ho⟩ =>
  tS_expr z e ho fun v d F1 H1 z1 g1 r e => by
    have e : (match ρ[i]? with
      | some (some (.ob a n all fs)) => if f ∈ all ∧ fs.length < 1000 then some (Out.nx (ρ.set i (some (.ob a n all (putD f d fs))))) else none
      | _ => none) = some o := e
    split at e
    · rename_i a0 n all fs q
      split at e
      · rename_i hh
        obtain ⟨w, e1, a, C, dx, es, rfl, h0, hf, ha, rf, c, ca, rfl⟩ := z1.slot i _ q
        cases e
        refine ⟨_, e1, a, C, dx, es, rfl, ha, c.cls, c.no f hh.1, by rw [rf.len]; exact hh.2, ho σ F1 _ (z1.updOwn q rfl rfl e1 h0 hf fun H' hH' => ?_)⟩
        exact ⟨a, C, dx, _, rfl, h0, hf, hH', rf.put r, c, fun g hg => (keys_putD hg).elim (fun e => by rw [e]; exact hh.1) (ca g), rfl⟩
      · cases e
    · cases e

/-- name = {} -/
abbrev sSetM (i : Nat) : Env → Option Out := fun ρ => some (.nx (ρ.set i (some (.md []))))
theorem ds_setM {i : Nat} (h : PS X st (tAsg tDNewT (gName i))) : DS X W st (sSetM i) := h.weak fun D σ H ⟨F0, H0, ρ, F, o, z, e, ho⟩ => by
  cases e
  intro p hp
  have g : Grow F H F (upd H p (.dT [])) := Grow.own z.sub hp
  have hf : F p = none := z.sub.out hp
  refine ho _ F _ ((z.up g).setS i (s := .md []) ⟨p, [], rfl, z.grow.hh.free hp, hf, upd_same, .nil⟩ fun _ j t b hj e1 o1 eb e2 => ?_)
  cases eb
  exact apart_new z hp j t e1 o1 e2
def slotM (i : Nat) (ρ : Env) : Option (List (List Key × D)) := match ρ[i]? with
  | some (some (.md xs)) => some xs
  | _ => none
theorem slotM_some {i : Nat} {ρ : Env} {xs : List (List Key × D)} (h : slotM i ρ = some xs) : ρ[i]? = some (some (.md xs)) := by
  unfold slotM at h
  split at h
  · rename_i q; cases h; exact q
  · cases h
def keyT : D → Option (List Key)
  | .tup (k0 :: ks) => keys? (k0 :: ks)
  | _ => none
theorem keyT_some {d : D} {k : List Key} (h : keyT d = some k) : ∃ k0 ks, d = .tup (k0 :: ks) ∧ keys? (k0 :: ks) = some k := by
  unfold keyT at h
  split at h
  · exact ⟨_, _, rfl, h⟩
  · cases h
abbrev sPutD (i : Nat) (fk fv : Env → R D) : Env → Option Out := fun ρ => withR (fv ρ) ρ fun d => (slotM i ρ).bind fun kvs => withR (fk ρ) ρ fun k => (keyT k).bind fun k => if kvs.length < 16777216 then some (.nx (ρ.set i (some (.md (putE kvs k d))))) else none
/-- d[k] = e, d a dict of one's own -/
theorem ds_putD (i : Nat) {x : Str} {p : Pos} {k : Expr} {fk fv : Env → R D} (hu : X.A.units + 1 < cLine) (hv : PE X (.Name x p) (tVar i)) (hk : DV X W k fk) (he : DV X W e fv) (hs : swapsWith e (some (.Subscript (.Name x p) k pos')) pos.line X.env = pure false := by rfl) :
    DS X W (.Assign [.Subscript (.Name x p) k pos'] e pos) (sPutD i fk fv) := (ps_dput hu hv hk he hs).weak fun D σ H ⟨F0, H0, ρ, F, o, z, e, ho⟩ =>
  tS_expr z e ho fun v d F1 H1 z1 g1 rd e => by
    obtain ⟨kvs, q, e⟩ := Option.bind_eq_some_iff.mp e
    have q := slotM_some q
    obtain ⟨w, e1, a, es, rfl, h0, hf, ha, rk⟩ := z1.slot i _ q
    refine ⟨_, e1, tS_expr z1 e ho fun kv kd F2 H2 z2 g2 rkd ee => ?_⟩
    obtain ⟨key, e2, e4⟩ := Option.bind_eq_some_iff.mp ee
    clear ee
    obtain ⟨k0, ks, ek, e3⟩ := keyT_some e2
    subst ek
    split at e4
    · rename_i hl
      cases e4
      obtain ⟨w', e1', a', es', ea, h0', hf', ha', rk'⟩ := z2.slot i _ q
      rw [e1] at e1'
      cases e1'
      cases ea
      have rkd : Rep X.K F2 kv (.tup (k0 :: ks)) := rkd
      cases rkd with
      | @tup b vs _ fb rl =>
        have nv := rl.ne
        have ev := rl.keys e3
        subst ev
        exact ⟨a, _, rfl, DPut.t ha' (z2.sub _ _ (fb.own nv)) (by rw [sizeLine_eq, rk'.len]; exact hl), ho σ F2 _ (z2.updOwn q rfl rfl e1 h0 hf' fun H' hH' => ⟨a, _, rfl, h0, hf', hH', rk'.put (Rep.mono rd g2.ff)⟩)⟩
    · cases e4
end
end DL
/-! DL16: an instance of one's own is read as data for a while; classes. -/
namespace DL
open PySem PySem.Spec PyProof.Rows L2

def era (F : Hp) (a : Addr) : Hp := fun b => if b = a then none else F b
theorem era_same {F : Hp} {a : Addr} : era F a a = none := by unfold era; rw [if_pos rfl]
theorem era_ne {F : Hp} {a b : Addr} (h : b ≠ a) : era F a b = F b := by unfold era; rw [if_neg h]
theorem era_some {F : Hp} {a b : Addr} {o : HO} (h : era F a b = some o) : b ≠ a ∧ F b = some o := by
  unfold era at h
  split at h
  · cases h
  · rename_i hb; exact ⟨hb, h⟩
mutual
/-- no instance in it -/
def noObj : D → Bool
  | .obj _ _ => false
  | .tup xs => noObjs xs
  | .lst xs => noObjs xs
  | .dct xs => noObjK xs
  | .dck _ => false
  | .dcx _ _ _ => false
  | _ => true
def noObjs : List D → Bool
  | [] => true
  | d :: ds => noObj d && noObjs ds
def noObjK : List (List Key × D) → Bool
  | [] => true
  | (_, d) :: ds => noObj d && noObjK ds
end
section
variable {K : KF} {F F' H H' : Hp} {a C dx : Addr} {es : List (Str × V)}
theorem Rd.out {o u : HO} {b : Addr} (hF : F a = some (.ins C dx es)) (h : Rd F b o) (ho : ∀ C dx es, o ≠ .ins C dx es) : Rd (era F a) b o := by
  have nb : b ≠ a := by
    rintro rfl
    rcases h with h | ⟨z, h⟩
    · rw [hF] at h; cases h; exact ho _ _ _ rfl
    · rw [hF] at h; cases h
  rcases h with h | ⟨z, h⟩
  · exact .inl (by rw [era_ne nb]; exact h)
  · exact .inr ⟨z, by rw [era_ne nb]; exact h⟩
mutual
theorem Rep.out (hF : F a = some (.ins C dx es)) : ∀ (d : D) (v : V), Rep K F v d → noObj d = true → Rep K (era F a) v d
  | .non, _, h, _ => by cases h; exact .non
  | .bl _, _, h, _ => by cases h; exact .bl _
  | .int _, _, h, _ => by cases h; exact .int _
  | .str _, _, h, _ => by cases h; exact .str _
  | .tup xs, _, h, n => by
    cases h with
    | tup e r => exact .tup (e.elim (fun e => .inl (by rw [era_ne (ne_of e hF (by intro z; cases z))]; exact e)) .inr) (RepL.out hF xs _ r (by simpa [noObj] using n))
  | .lst xs, _, h, n => by
    cases h with
    | lst e r => exact .lst (by rw [era_ne (ne_of e hF (by intro z; cases z))]; exact e) (RepL.out hF xs _ r (by simpa [noObj] using n))
  | .scr ns, _, h, _ => by
    cases h with
    | scr e =>
      rcases e with e | e
      · exact .scr (.inl (Rd.out (u := .lst []) hF e (by intro _ _ _ z; cases z)))
      · exact .scr (.inr e)
  | .dct kvs, _, h, n => by
    cases h with
    | dct e r => exact .dct (by rw [era_ne (ne_of e hF (by intro z; cases z))]; exact e) (RepK.out hF kvs _ r (by simpa [noObj] using n))
  | .obj _ _, _, _, n => by simp [noObj] at n
  | .dck _, _, _, n => by simp [noObj] at n
  | .dcx _ _ _, _, _, n => by simp [noObj] at n
  | .ptr _, _, h, _ => by cases h; exact .ptr
theorem RepL.out (hF : F a = some (.ins C dx es)) : ∀ (ds : List D) (vs : List V), RepL K F vs ds → noObjs ds = true → RepL K (era F a) vs ds
  | [], _, h, _ => by cases h; exact .nil
  | d :: ds, _, h, n => by
    simp only [noObjs, Bool.and_eq_true] at n
    cases h with | cons x y => exact .cons (Rep.out hF d _ x n.1) (RepL.out hF ds _ y n.2)
theorem RepK.out (hF : F a = some (.ins C dx es)) : ∀ (ds : List (List Key × D)) (vs : List (List Key × V)), RepK K F vs ds → noObjK ds = true → RepK K (era F a) vs ds
  | [], _, h, _ => by cases h; exact .nil
  | (k, d) :: ds, _, h, n => by
    simp only [noObjK, Bool.and_eq_true] at n
    cases h with | cons x y => exact .cons (Rep.out hF d _ x n.1) (RepK.out hF ds _ y n.2)
end
theorem Grow.out {o : HO} (hf : F a = none) (g : Grow (upd F a o) H F' H') : Grow F H (era F' a) H' where
  hh := g.hh
  ff := fun b u e => by
    have nb : b ≠ a := by rintro rfl; rw [hf] at e; cases e
    rw [era_ne nb]
    exact g.ff b u (by rw [upd_ne nb]; exact e)
  fh := fun b u e => g.fh b u (era_some e).2
  nn := fun x hx hfx => by
    by_cases q : x = a
    · subst q; exact era_same
    · rw [era_ne q]; exact g.nn x hx (by rw [upd_ne q]; exact hfx)
end
section
variable {X : Cx} {W : Wish} {e : Expr}
/-- with the instance at i read as data -/
abbrev eMelt (i : Nat) (f : Env → R D) : Env → R D := fun ρ => match ρ[i]? with
  | some (some (.ob _ n _ fs)) => (f (ρ.set i (some (.d (.obj n fs))))).bind fun d => if noObj d = true then .ok d else .stuck
  | _ => .stuck
abbrev lMelt (i : Nat) (f : Env → R (List D)) : Env → R (List D) := fun ρ => match ρ[i]? with
  | some (some (.ob _ n _ fs)) => (f (ρ.set i (some (.d (.obj n fs))))).bind fun d => if noObjs d = true then .ok d else .stuck
  | _ => .stuck
theorem dv_melt (i : Nat) {f : Env → R D} (h : DV X W e f) : DV X W e (eMelt i f) := h.weak fun σ H Q ⟨F0, H0, ρ, F, z, h⟩ => by
  have h : Post W (rV X.K) F H σ (match ρ[i]? with
    | some (some (.ob _ n _ fs)) => (f (ρ.set i (some (.d (.obj n fs))))).bind fun d => if noObj d = true then .ok d else .stuck
    | _ => .stuck) Q := h
  split at h
  · rename_i a0 n all fs q
    obtain ⟨v, e1, a, C, dx, es, rfl, h0, hf, ha, rf, c, ca, _⟩ := z.slot i _ q
    have z' := z.freezeAt q rfl e1 h0 hf ha (d := .obj n fs) (.obj upd_same ⟨c.at_, c.cls, fun f hf => c.no f (ca f hf)⟩ (rf.mono (Same.add hf)))
    refine ⟨F0, H0, _, _, z', ?_⟩
    cases qf : f (ρ.set i (some (.d (.obj n fs)))) with
    | stuck => rw [qf] at h; exact h
    | err c => rw [qf] at h; exact fun F' H' g => h _ H' (Grow.out hf g)
    | ok d =>
      rw [qf] at h
      have h : Post W (rV X.K) F H σ (if noObj d = true then .ok d else .stuck) Q := h
      split at h
      · rename_i no
        exact fun b F' H' g r => h b _ H' (Grow.out hf g) (Rep.out (g.ff _ _ upd_same) d b r no)
      · exact h.elim
  · exact h.elim
theorem df_melt (i : Nat) {f : Env → R (List D)} (h : DF X W e f) : DF X W e (lMelt i f) := h.weak fun σ H Q ⟨F0, H0, ρ, F, z, h⟩ => by
  have h : Post W (rF X.K) F H σ (match ρ[i]? with
    | some (some (.ob _ n _ fs)) => (f (ρ.set i (some (.d (.obj n fs))))).bind fun d => if noObjs d = true then .ok d else .stuck
    | _ => .stuck) Q := h
  split at h
  · rename_i a0 n all fs q
    obtain ⟨v, e1, a, C, dx, es, rfl, h0, hf, ha, rf, c, ca, _⟩ := z.slot i _ q
    have z' := z.freezeAt q rfl e1 h0 hf ha (d := .obj n fs) (.obj upd_same ⟨c.at_, c.cls, fun f hf => c.no f (ca f hf)⟩ (rf.mono (Same.add hf)))
    refine ⟨F0, H0, _, _, z', ?_⟩
    cases qf : f (ρ.set i (some (.d (.obj n fs)))) with
    | stuck => rw [qf] at h; exact h
    | err c => rw [qf] at h; exact fun F' H' g => h _ H' (Grow.out hf g)
    | ok d =>
      rw [qf] at h
      have h : Post W (rF X.K) F H σ (if noObjs d = true then .ok d else .stuck) Q := h
      split at h
      · rename_i no
        refine fun b F' H' g ⟨l, vs, e, hn, hfn, hl, r⟩ => h b _ H' (Grow.out hf g) ⟨l, vs, e, hn, ?_, hl, RepL.out (g.ff _ _ upd_same) d vs r no⟩
        by_cases q : l = a
        · subst q; exact era_same
        · rw [era_ne q]; exact hfn
      · exact h.elim
  · exact h.elim
end

/-! ### __init__ -/
def InitPost (K : KF) (mg : Str → Option Value) (n : Str) (all : List Str) (F H : Hp) (a : Addr) (Q : VK) (E : XK) : R (List (Str × D)) → Prop
  | .stuck => False
  | .err c => ∀ F' H' C, Grow F (era H a) F' H' → mg c = some (.ref C) → E (.ref C) none H'
  | .ok fs => ∀ F' H' C dx es, Grow F (era H a) F' H' → F' a = none → H' a = some (.ins C dx es) → RepF K F' es fs → IsCls K n C all → (∀ f ∈ fs.map (·.1), f ∈ all) → Q .non H'
/-- the promise of an __init__: data in, attributes out -/
def spI (K : KF) (mg : Str → Option Value) (n : Str) (all : List Str) (np : Nat) (m : List D → R (List (Str × D))) : Sp := fun vs H Q E => vs.length = np + 1 ∧ ∃ a C dx us ds F, vs = .ref a :: us ∧ H a = some (.ins C dx []) ∧ F a = none ∧ IsCls K n C all ∧ Same F H ∧ RepL K F us ds ∧ InitPost K mg n all F H a Q E (m ds)
def startI (N : Nat) (a : Addr) (n : Str) (all : List Str) (ds : List D) : Env := some (.ob a n all []) :: (ds.map (fun d => some (.d d)) ++ List.replicate (N - (ds.length + 1)) none)
def endI (a : Addr) (n : Str) (all : List Str) : Out → R (List (Str × D))
  | .nx ρ => match (ρ[(0 : Nat)]? : Option (Option S)) with
    | some (some (.ob a' n' all' fs)) => if a' = a ∧ n' = n ∧ all' = all then .ok fs else .stuck
    | _ => .stuck
  | .ex c _ => .err c
  | _ => .stuck
def coreI (N np : Nat) (n : Str) (all : List Str) (g : Env → Option Out) (a : Addr) (ds : List D) : R (List (Str × D)) := if ds.length = np then (R.of (g (startI N a n all ds))).bind (endI a n all) else .stuck
open Classical in
noncomputable def runI (N np : Nat) (n : Str) (all : List Str) (g : Env → Option Out) (ds : List D) : R (List (Str × D)) := if ∀ a, coreI N np n all g a ds = coreI N np n all g 0 ds then coreI N np n all g 0 ds else .stuck
theorem runI_eq {N np : Nat} {n : Str} {all : List Str} {g : Env → Option Out} {ds : List D} {r : R (List (Str × D))} (h : ∀ a, coreI N np n all g a ds = r) : runI N np n all g ds = r := by
  unfold runI
  rw [if_pos (fun a => by rw [h a, h 0])]
  exact h 0
theorem runI_core {N np : Nat} {n : Str} {all : List Str} {g : Env → Option Out} {ds : List D} (a : Addr) : runI N np n all g ds = .stuck ∨ runI N np n all g ds = coreI N np n all g a ds := by
  unfold runI
  split
  · rename_i h; exact .inr (h a).symm
  · exact .inl rfl

theorem sl_startI {K : KF} {F H : Hp} {N : List Str} {us : List V} {ds : List D} {a C dx : Addr} {n : Str} {all : List Str} (s : Same F H) (ha : H a = some (.ins C dx [])) (hf : F a = none) (c : IsCls K n C all) (r : RepL K F us ds) :
    SL K F (era H a) (startI N.length a n all ds) (L2.start N (.ref a :: us)) F H := by
  have s0 : Same (era H a) H := fun b u e => (era_some e).2
  refine ⟨⟨s0, Same.refl _, s, fun _ _ h => h⟩, by simp [startI, L2.start, r.len], fun i t e => ?_, fun i j t u b hij e1 e2 o1 o2 => ?_⟩
  · cases i with
    | zero =>
      cases e
      exact ⟨.ref a, rfl, a, C, dx, [], rfl, era_same, hf, ha, .nil, c, fun f h => by simp at h, rfl⟩
    | succ i =>
      have e : (ds.map (fun d => some (S.d d)) ++ List.replicate (N.length - (ds.length + 1)) none)[i]? = some (some t) := e
      by_cases hi : i < ds.length
      · rw [List.getElem?_append_left (by simpa using hi), List.getElem?_map] at e
        cases q : ds[i]? with
        | none => rw [q] at e; cases e
        | some d =>
          rw [q] at e
          cases e
          obtain ⟨v, hv, rv⟩ := r.get q
          refine ⟨v, ?_, rv⟩
          show ((V.ref a :: us).map some ++ List.replicate (N.length - (V.ref a :: us).length) none)[i + 1]? = some (some v)
          rw [List.getElem?_append_left (by simpa [r.len] using hi), List.map_cons, List.getElem?_cons_succ, List.getElem?_map, hv]; rfl
      · rw [List.getElem?_append_right (by simpa using hi), List.getElem?_replicate] at e
        split at e <;> cases e
  · have one : ∀ (i : Nat) (t : S), (startI N.length a n all ds)[i]? = some (some t) → t.own = true → i = 0 := fun i t e o => by
      cases i with
      | zero => rfl
      | succ i =>
        have e : (ds.map (fun d => some (S.d d)) ++ List.replicate (N.length - (ds.length + 1)) none)[i]? = some (some t) := e
        by_cases hi : i < ds.length
        · rw [List.getElem?_append_left (by simpa using hi), List.getElem?_map] at e
          cases q : ds[i]? with
          | none => rw [q] at e; cases e
          | some d => rw [q] at e; cases e; cases o
        · rw [List.getElem?_append_right (by simpa using hi), List.getElem?_replicate] at e
          split at e <;> cases e
    exact absurd ((one i t e1 o1).trans (one j u e2 o2).symm) hij
section
variable {P : Program} {w : World} {K : KF} {mg : Str → Option Value} {base : Heap}
/-- THE RULE for an __init__ -/
theorem init_ok {x qual : Str} {st : Stmt} {f : Addr} {fd : FuncData} {N ps : List Str} {k np : Nat} {n : Str} {all : List Str} {g : Env → Option Out} {dvs : List V} (F : FunD K x qual (defArgs st) (defBody st) (defScope st) dvs [] f fd) (Sc : FnScope N ps (defScope st)) (hn : ps.length = np + 1)
    (hbody : ∀ (cdv : Value) (A : Around) (outer : List PySem.Env) (s : Shared) (H : Hp) (E : XK), Room k (A.deeper (envOfC qual (defScope st) s.heap.objs.size f cdv)) →
      DSs (cxOf (L2.CX P w) P w K mg base N qual (defScope st) f cdv A outer s H E) (wish mg fun cls d _ H => E cls d H) (defBody st) g) :
    FnOk P w K mg base (L2.CX P w) (k + 1) f fd ps (spI K mg n all np (runI N.length np n all g)) := by
  refine FunD.ok F Sc (fun vs H Q E h => by rw [h.1, hn]) fun cdv A outer s H vs Q E hr h => ⟨_, hbody cdv A outer s H E hr, ?_⟩
  obtain ⟨hl, a, C, dx, us, ds, Fz, rfl, ha, hf, c, sm, r, hp⟩ := h
  rcases runI_core (N := N.length) (np := np) (n := n) (all := all) (g := g) (ds := ds) a with e | e
  · rw [e] at hp; exact hp.elim
  rw [e] at hp
  unfold coreI at hp
  have hl2 : ds.length = np := by rw [← r.len]; simpa using hl
  rw [if_pos hl2] at hp
  cases q : g (startI N.length a n all ds) with
  | none => rw [q] at hp; exact hp.elim
  | some o =>
    rw [q] at hp
    have hp : InitPost K mg n all Fz H a Q E (endI a n all o) := hp
    refine ⟨Fz, era H a, _, Fz, o, sl_startI sm ha hf c r, q, ?_⟩
    cases o with
    | nx ρ =>
      intro σ F1 H1 z
      have hp : InitPost K mg n all Fz H a Q E (match (ρ[(0 : Nat)]? : Option (Option S)) with
        | some (some (.ob a' n' all' fs)) => if a' = a ∧ n' = n ∧ all' = all then .ok fs else .stuck
        | _ => .stuck) := hp
      split at hp
      · rename_i a' n' all' fs q0
        split at hp
        · rename_i hh
          obtain ⟨rfl, rfl, rfl⟩ := hh
          obtain ⟨v, e1, a2, C2, dx2, es2, rfl, h02, hf2, hh2, rf, c2, ca2, rfl⟩ := z.slot 0 _ q0
          exact hp F1 H1 _ _ _ z.grow hf2 hh2 rf c2 ca2
        · exact hp.elim
      · exact hp.elim
    | rt r => exact hp.elim
    | bk ρ => exact hp.elim
    | ct ρ => exact hp.elim
    | ex c ρ => exact fun σ F1 H1 z C hC => hp F1 H1 C z.grow hC
end

/-! ### C(..) -/
def tMakeS (C : Addr) (sp : Sp) (E : L2.St → XK) (t : TA) : TE := fun σ H Q => t σ H fun vs H1 => ∀ x dx, H1 x = none → H1 dx = none → dx ≠ x → sp (.ref x :: vs) (upd (upd H1 dx (.own x)) x (.ins C dx [])) (fun v H2 => v = .non ∧ Q (.ref x) H2) (E σ)
section
variable {X : Cx} {CX : CXT} {k : Nat} {f C : Addr} {fd : FuncData} {ps : List Str} {sp : Sp} {E : L2.St → XK} {x : Str} {p pos : Pos} {e : Expr} {es : List Expr} {t : TA}
theorem run_makeS {pins : List (Addr × Obj)} {σ : L2.St} {H : Hp} {s : Shared} {Q : VK} {us : List Value} {vs : List V} (M : Mk X.K C f) (F : FnOk X.prog X.w X.K X.mg X.base CX k f fd ps sp) (hr : Room (k + 1) X.A) (hb : Binds X.K fd ps [])
    (hx : PassesAt CX X σ (E σ)) (I : Inv X pins σ H s) (r : Vals vs us)
    (h : ∀ x dx, H x = none → H dx = none → dx ≠ x → sp (.ref x :: vs) (upd (upd H dx (.own x)) x (.ins C dx [])) (fun v H2 => v = .non ∧ Q (.ref x) H2) (E σ)) :
    wpAny (model X.prog X.w) X.A (call (.ref C) us) (EP X pins σ Q) X.xe s := by
  have hq := h (s.heap.objs.size + 1) s.heap.objs.size (I.hok.fresh (Nat.le_succ _)) (I.hok.fresh (Nat.le_refl _)) (Nat.ne_of_lt (Nat.lt_succ_self _))
  have I2 := Inv.made (C := C) I
  have r2 : Vals (V.ref (s.heap.objs.size + 1) :: vs) (Value.ref (s.heap.objs.size + 1) :: us) := .cons rfl r
  have hl : (Value.ref (s.heap.objs.size + 1) :: us).length = ps.length := by
    have e := r2.length
    rw [F.len _ _ _ _ hq] at e
    exact e.symm
  have b := hb _ (Value.ref (s.heap.objs.size + 1) :: us) I2.kIn (by rw [List.append_nil]; exact hl)
  rw [List.append_nil] at b
  refine wpAny_call (make_map (f := f) I.kIn M.makes M.init (beq_iff_eq.mp M.fn) (codeAny_mono (F.run _ X.stack _ _ ⟨Value.ref (s.heap.objs.size + 1) :: us, []⟩ (Value.ref (s.heap.objs.size + 1) :: us) _ _ (E σ) (hr.make C us [])
    (I2.env0.make C us []) b r2 hq) fun r s' hq' => ?_))
  cases r with
  | error e => exact hx pins _ _ e s' I2 hq'
  | ok fl =>
    cases fl with
    | ret u =>
      obtain ⟨v, H', I3, rv, ev, q3⟩ := I2.after hq'
      subst ev
      exact ⟨rv, ⟨V.ref (s.heap.objs.size + 1), H', I3, rfl, q3⟩⟩
    | next => exact False.elim hq'
    | brk => exact False.elim hq'
    | cont => exact False.elim hq'
theorem pe_makeS (M : Mk X.K C f) (F : FnOk X.prog X.w X.K X.mg X.base CX k f fd ps sp) (hr : Room (k + 1) X.A) (hg : Gl X x) (hm : X.mg x = some (.ref C)) (hb : Binds X.K fd ps []) (hx : ∀ σ, PassesAt CX X σ (E σ))
    (ha : PA X (e :: es) t) (hdb : (x == ("__debug__" : Str)) = false := by decide) (he : starEach (e :: es) X.env = (false, eval e X.env) :: starEach es X.env := by rfl) (hpl : (backTo pos (starEach es X.env)).any (·.1) = false := by rfl) :
    PE X (.Call (.Name x p) (e :: es) [] pos) (tMakeS C sp E t) := by
  refine ⟨fun pins s σ H Q I h => ?_⟩
  refine wpAny_Call_Name_kw (ld_glob I hg hm ?_ hdb)
  refine PySem.W.callWith_K (h₀ := X.base) I.ok.mod.kin M.kp (thn (ha.run pos pins s σ H _ I h) fun us s1 ⟨vs, H1, I1, r, q⟩ => ⟨I1.kIn, ?_⟩) he hpl
  exact run_makeS M F hr hb (hx σ) I1 r q
end
/-- the class under the name n makes instances by the mirror m -/
def KeepsI (P : Program) (w : World) (K : KF) (mg : Str → Option Value) (base : Heap) (n : Str) (all : List Str) (k : Nat) (ps : List Str) (np : Nat) (m : List D → R (List (Str × D))) : Prop :=
  ∃ C f fd, mg n = some (.ref C) ∧ Mk K C f ∧ Binds K fd ps [] ∧ IsCls K n C all ∧ FnOk P w K mg base (L2.CX P w) k f fd ps (spI K mg n all np m)
/-- what stands of a class with an __init__ -/
def HasI (K : KF) (mg : Str → Option Value) (n : Str) (all : List Str) (st : Stmt) (ps : List Str) (qual : Str) : Prop := ∃ C f fd dvs, mg n = some (.ref C) ∧ Mk K C f ∧ Binds K fd ps [] ∧ IsCls K n C all ∧ FunD K "__init__" qual (defArgs st) (defBody st) (defScope st) dvs [] f fd
theorem keepsI_of {P : Program} {w : World} {K : KF} {mg : Str → Option Value} {base : Heap} {n qual : Str} {all : List Str} {st : Stmt} {N ps : List Str} {k np : Nat} {g : Env → Option Out} (h : HasI K mg n all st ps qual) (Sc : FnScope N ps (defScope st)) (hn : ps.length = np + 1)
    (hbody : ∀ (f : Addr) (cdv : Value) (A : Around) (outer : List PySem.Env) (s : Shared) (H : Hp) (E : XK), Room k (A.deeper (envOfC qual (defScope st) s.heap.objs.size f cdv)) →
      DSs (cxOf (L2.CX P w) P w K mg base N qual (defScope st) f cdv A outer s H E) (wish mg fun cls d _ H => E cls d H) (defBody st) g) :
    KeepsI P w K mg base n all (k + 1) ps np (runI N.length np n all g) := by
  obtain ⟨C, f, fd, dvs, h1, h2, h3, h4, h5⟩ := h
  exact ⟨C, f, fd, h1, h2, h3, h4, init_ok h5 Sc hn (hbody f)⟩
abbrev eMake (n : Str) (m : List D → R (List (Str × D))) (fs : Env → R (List D)) : Env → R D := fun ρ => (fs ρ).bind fun ds => (m ds).map (D.obj n)
section
variable {X : Cx} {W' : WX} {e : Expr} {es : List Expr} {fs : Env → R (List D)} {m : List D → R (List (Str × D))} {k np : Nat} {ps : List Str} {n : Str} {all : List Str} {p pos : Pos}
theorem dv_make (G : KeepsI X.prog X.w X.K X.mg X.base n all k ps np m) (hr : Room (k + 1) X.A) (tk : Takes X W') (hg : Gl X n)
    (ha : DA X (wish X.mg W') (e :: es) fs) (hfs : AL fs np) (hdb : (n == ("__debug__" : Str)) = false := by decide) (he : starEach (e :: es) X.env = (false, eval e X.env) :: starEach es X.env := by rfl) (hpl : (backTo pos (starEach es X.env)).any (·.1) = false := by rfl) :
    DV X (wish X.mg W') (.Call (.Name n p) (e :: es) [] pos) (eMake n m fs) := by
  obtain ⟨C, f, fd, h1, h2, h3, h4, h5⟩ := G
  refine (pe_makeS h2 h5 hr hg h1 h3 (fun σ => passAt tk σ) ha hdb he hpl).weak fun σ H Q ⟨F0, H0, ρ, F, z, h⟩ => ?_
  refine ⟨F0, H0, ρ, F, z, ?_⟩
  have h : Post (wish X.mg W') (rV X.K) F H σ ((fs ρ).bind fun ds => (m ds).map (D.obj n)) Q := h
  cases q : fs ρ with
  | stuck => rw [q] at h; exact h
  | err c => rw [q] at h; exact h
  | ok ds =>
    rw [q] at h
    intro vs F1 H1 g1 r1 x dx hx hdx ndx
    have h2 : Post (wish X.mg W') (rV X.K) F1 H1 σ ((m ds).map (D.obj n)) Q := Post.later rV_early g1 h
    have r1 : RepL X.K F1 vs ds := r1
    have nx : F1 x = none := g1.fh.out hx
    have ndx1 : F1 dx = none := g1.fh.out hdx
    have s1 : Same H1 (era (upd (upd H1 dx (.own x)) x (.ins C dx [])) x) := fun b u e => by
      have b1 : b ≠ x := fun q => by rw [q, hx] at e; cases e
      have b2 : b ≠ dx := fun q => by rw [q, hdx] at e; cases e
      rw [era_ne b1, upd_ne b1, upd_ne b2]; exact e
    refine ⟨by rw [List.length_cons, RepL.len r1, hfs ρ ds q], x, C, dx, vs, ds, F1, rfl, upd_same, nx, h4, fun b u e => ?_, r1, ?_⟩
    · have b1 : b ≠ x := fun q => by rw [q, nx] at e; cases e
      have b2 : b ≠ dx := fun q => by rw [q, ndx1] at e; cases e
      rw [upd_ne b1, upd_ne b2]; exact g1.fh b u e
    have up : ∀ {F' H' : Hp}, Grow F1 (era (upd (upd H1 dx (.own x)) x (.ins C dx [])) x) F' H' → Grow F1 H1 F' H' := fun g => ⟨s1.trans g.hh, g.ff, g.fh, fun b hb hf => g.nn b (fun q => hb (s1.free q)) hf⟩
    cases q2 : m ds with
    | stuck => rw [q2] at h2; exact h2
    | err c => rw [q2] at h2; exact fun F' H' C g hC => h2 F' H' (up g) C hC
    | ok fl =>
      rw [q2] at h2
      intro F' H' C' dx' es' g hF' hH' rf c' ca'
      refine ⟨rfl, h2 (.ref x) (upd F' x (.ins C' dx' es')) H' ?_ (.obj upd_same ⟨c'.at_, c'.cls, fun f hf => c'.no f (ca' f hf)⟩ (rf.mono (Same.add hF')))⟩
      have g := up g
      refine ⟨g.hh, g.ff.trans (Same.add hF'), fun b u e => ?_, fun b hb hf => ?_⟩
      · by_cases hb : b = x
        · subst hb; rw [upd_same] at e; cases e; exact hH'
        · rw [upd_ne hb] at e; exact g.fh b u e
      · rw [upd_ne (fun q => hb (by rw [q]; exact hx))]; exact g.nn b hb hf
end
end DL
/-! DL18: zip of three. -/
namespace DL
open PySem PySem.Spec PyProof.Rows L2

def Itz3 (K : KF) (b1 : Bool) (a1 : Addr) (b2 : Bool) (a2 : Addr) (b3 : Bool) (a3 : Addr) : It :=
  ⟨fun i H => ∃ (xs ys zs : List V) (x y z : V), SqG K H b1 a1 xs ∧ SqG K H b2 a2 ys ∧ SqG K H b3 a3 zs ∧ xs[i]? = some x ∧ ys[i]? = some y ∧ zs[i]? = some z,
    fun i H v H' => ∃ T x y z, v = .ref T ∧ H T = none ∧ H' = upd H T (.tup [x, y, z]) ∧ (∀ xs, SqG K H b1 a1 xs → xs[i]? = some x) ∧ (∀ ys, SqG K H b2 a2 ys → ys[i]? = some y) ∧ ∀ zs, SqG K H b3 a3 zs → zs[i]? = some z,
    fun i H => ∃ xs ys zs : List V, SqG K H b1 a1 xs ∧ SqG K H b2 a2 ys ∧ SqG K H b3 a3 zs ∧ i ≤ xs.length ∧ i ≤ ys.length ∧ i ≤ zs.length ∧ (i = xs.length ∨ i = ys.length ∨ i = zs.length)⟩
structure Far3 (z TI TO i1 i2 i3 a1 a2 a3 : Addr) : Prop where
  sep : ZipSep3 z TI TO i1 i2 i3 [i1, a1] [i2, a2] [i3, a3]
  a1i : a1 ≠ i1
  a2i : a2 ≠ i2
  a3i : a3 ≠ i3
theorem far3 (n a1 a2 a3 : Nat) (h1 : a1 < n) (h2 : a2 < n) (h3 : a3 < n) : Far3 (n + 5) (n + 3) (n + 4) n (n + 1) (n + 2) a1 a2 a3 :=
  ⟨zip_sep3 (fp1 := [a1]) (fp2 := [a2]) (fp3 := [a3]) (fun b hb => by rw [List.mem_singleton.mp hb]; exact h1) (fun b hb => by rw [List.mem_singleton.mp hb]; exact h2) (fun b hb => by rw [List.mem_singleton.mp hb]; exact h3), lt_ne h1, lt_ne (by omega), lt_ne (by omega)⟩
theorem turn_zip3 {P : Program} {w : World} {K : KF} {elts : List Expr} {kk : Nat} {tpos : Pos} {b1 b2 b3 : Bool} {a1 a2 a3 z TI TO i1 i2 i3 : Addr} (D : Far3 z TI TO i1 i2 i3 a1 a2 a3) :
    Turn P w K (.Tuple elts kk tpos) (Itz3 K b1 a1 b2 a2 b3 a3) [z, TI, TO, i1, i2, i3] z (fun i h => IsZip h z TI TO .none ∧ IsTupOf3 h TI (.ref i1) (.ref i2) (.ref i3) ∧ (∃ x y u, IsTupOf3 h TO x y u) ∧ ItG h b1 i1 a1 i ∧ ItG h b2 i2 a2 i ∧ ItG h b3 i3 a3 i) where
  mem := by simp
  obj := fun i h st c hc => by
    obtain ⟨hz, hTI, ⟨x, y, u, hTO⟩, h1, h2, h3⟩ := st
    have e' : c = z ∨ c = TI ∨ c = TO ∨ c = i1 ∨ c = i2 ∨ c = i3 := by simpa using hc
    rcases e' with rfl | rfl | rfl | rfl | rfl | rfl
    · exact ⟨_, hz, fun v q => nomatch q⟩
    · exact ⟨_, hTI, fun v q => nomatch q⟩
    · exact ⟨_, hTO, fun v q => nomatch q⟩
    · exact h1.obj
    · exact h2.obj
    · exact h3.obj
  keep := fun i h h' st k => by
    obtain ⟨hz, hTI, ⟨x, y, u, hTO⟩, h1, h2, h3⟩ := st
    exact ⟨k z (by simp) _ hz, k TI (by simp) _ hTI, ⟨x, y, u, k TO (by simp) _ hTO⟩, h1.at fun o q => k i1 (by simp) o q, h2.at fun o q => k i2 (by simp) o q, h3.at fun o q => k i3 (by simp) o q⟩
  item := by
    intro X hP hw hK hc i pins s σ H E I hf st hg
    subst hP hw hK
    obtain ⟨hz, hTI, ⟨x0, y0, u0, hTO⟩, h1, h2, h3⟩ := st
    obtain ⟨xs, ys, zs, x, y, zz, hqx, hqy, hqz, hx, hy, hzz⟩ := hg
    obtain ⟨its, rv, p⟩ := inv_G I hqx
    obtain ⟨its2, rv2, p2⟩ := inv_G I hqy
    obtain ⟨its3, rv3, p3⟩ := inv_G I hqz
    have l1 := rv.length
    have l2 := rv2.length
    have l3 := rv3.length
    have lx := (List.getElem?_eq_some_iff.mp hx).1
    have ly := (List.getElem?_eq_some_iff.mp hy).1
    have lz := (List.getElem?_eq_some_iff.mp hzz).1
    have hzl : z < s.heap.objs.size := Heap.lt_size hz
    have hh : X.A.in1.handled = none := by simpa using I.ok.hd hc
    refine wpAny_pyNext_zipD3_item D.sep (draws_G hh b1 i1 a1 D.a1i its.toArray) (draws_G hh b2 i2 a2 D.a2i its2.toArray) (draws_G hh b3 i3 a3 D.a3i its3.toArray) hz hTI hTO ⟨h1, p⟩ ⟨h2, p2⟩ ⟨h3, p3⟩ (by simp; omega) (by simp; omega) (by simp; omega) fun u u2 u3 h' tk hu hu2 hu3 z' TO' st1 st2 st3 hT hsz hk => ?_
    refine ⟨_, rfl, wpAny_letOwnedTupleGo_zip (s := { s with heap := h', toks := tk }) z' fun h'' z'' sb => ?_⟩
    obtain ⟨w1, hw1, ru⟩ := rv.get hx
    obtain ⟨w2, hw2, ru2⟩ := rv2.get hy
    obtain ⟨w3, hw3, ru3⟩ := rv3.get hzz
    have e1 : u = w1 := by
      have q : its[i]? = some u := by simpa using hu
      rw [hw1] at q; exact (Option.some.inj q).symm
    have e2 : u2 = w2 := by
      have q : its2[i]? = some u2 := by simpa using hu2
      rw [hw2] at q; exact (Option.some.inj q).symm
    have e3 : u3 = w3 := by
      have q : its3[i]? = some u3 := by simpa using hu3
      rw [hw3] at q; exact (Option.some.inj q).symm
    subst e1 e2 e3
    have hT2 : h''.get? s.heap.objs.size = some { cls := .type "tuple", data := .seq #[u, u2, u3] } := (sb.2 _ (Nat.ne_of_gt hzl)).trans hT
    have new : ObjOk X.prog X.w (upd H s.heap.objs.size (.tup [x, y, zz])) h'' s.heap.objs.size (.tup [x, y, zz]) :=
      ⟨by rw [sizeLine_eq]; show 3 ≤ 16777216; decide, [u, u2, u3], .cons ru (.cons ru2 (.cons ru3 .nil)), ⟨_, hT2, rfl, _, rfl⟩⟩
    have I1 : Inv X pins σ (upd H s.heap.objs.size (.tup [x, y, zz])) { s with heap := h'', toks := tk } :=
      I.turnedNew (t' := tk) (ch := [z, TI, TO, i1, i2, i3]) (fun c o hb q => (sb.2 c (fun q' => hb (by simp [q']))).trans (hk c o (fun q' => hb (by simp [q'])) (fun q' => hb (by simp [q'])) (fun q' => hb (by simp [q'])) (fun q' => hb (by simp [q'])) (fun q' => hb (by simp [q'])) q)) hf (Nat.le_refl _) new
    refine ⟨.ref s.heap.objs.size, _, I1, rfl, ⟨_, x, y, zz, rfl, I.hok.fresh (Nat.le_refl _), rfl, fun l hl => by rw [inv_G_inj I hl hqx]; exact hx, fun l hl => by rw [inv_G_inj I hl hqy]; exact hy, fun l hl => by rw [inv_G_inj I hl hqz]; exact hzz⟩, ⟨z'', ?_, ⟨u, u2, u3, ?_⟩, ?_, ?_, ?_⟩, fun c hcm => ?_⟩
    · exact (sb.2 _ D.sep.TIz).trans (hk _ _ D.sep.TIz D.sep.TITO D.sep.TIi1 D.sep.TIi2 D.sep.TIi3 hTI)
    · exact (sb.2 _ D.sep.TOz).trans TO'
    · exact st1.1.at fun o q => (sb.2 _ (Ne.symm D.sep.zi1)).trans q
    · exact st2.1.at fun o q => (sb.2 _ (Ne.symm D.sep.zi2)).trans q
    · exact st3.1.at fun o q => (sb.2 _ (Ne.symm D.sep.zi3)).trans q
    · have hlt : c < s.heap.objs.size := by
        have e' : c = z ∨ c = TI ∨ c = TO ∨ c = i1 ∨ c = i2 ∨ c = i3 := by simpa using hcm
        rcases e' with rfl | rfl | rfl | rfl | rfl | rfl
        · exact hzl
        · exact Heap.lt_size hTI
        · exact Heap.lt_size hTO
        · obtain ⟨_, e1, _⟩ := h1.obj; exact Heap.lt_size e1
        · obtain ⟨_, e2, _⟩ := h2.obj; exact Heap.lt_size e2
        · obtain ⟨_, e3, _⟩ := h3.obj; exact Heap.lt_size e3
      rw [upd_ne (Nat.ne_of_lt hlt)]
      exact (hf c hcm).1
  done := by
    intro X hP hw hK hc i pins s σ H E I hf st hg
    subst hP hw hK
    obtain ⟨hz, hTI, ⟨x0, y0, u0, hTO⟩, h1, h2, h3⟩ := st
    obtain ⟨xs, ys, zs, hqx, hqy, hqz, le1, le2, le3, hend⟩ := hg
    obtain ⟨its, rv, p⟩ := inv_G I hqx
    obtain ⟨its2, rv2, p2⟩ := inv_G I hqy
    obtain ⟨its3, rv3, p3⟩ := inv_G I hqz
    have l1 := rv.length
    have l2 := rv2.length
    have l3 := rv3.length
    have hh : X.A.in1.handled = none := by simpa using I.ok.hd hc
    refine wpAny_pyNext_zipD3_end D.sep (draws_G hh b1 i1 a1 D.a1i its.toArray) (draws_G hh b2 i2 a2 D.a2i its2.toArray) (draws_G hh b3 i3 a3 D.a3i its3.toArray) hz hTI hTO ⟨h1, p⟩ ⟨h2, p2⟩ ⟨h3, p3⟩ (by simp; omega) (by simp; omega) (by simp; omega) (by simp; omega) fun h' tk hk => ?_
    exact ⟨rfl, I.turnedL (t' := tk) (ch := [z, TI, TO, i1, i2, i3]) (fun c o hb q =>
      hk c o (fun q' => hb (by simp [q'])) (fun q' => hb (by simp [q'])) (fun q' => hb (by simp [q'])) (fun q' => hb (by simp [q'])) (fun q' => hb (by simp [q'])) q) hf⟩
  self := fun A i s Q E st h => wpAny_pyIter_zip st.1 h
abbrev YTri (f g h : Nat → Option V) : Nat → Hp → V → Hp → Prop := fun i H v H' => ∃ T x y z, v = .ref T ∧ H T = none ∧ H' = upd H T (.tup [x, y, z]) ∧ f i = some x ∧ g i = some y ∧ h i = some z
theorem walk_zip3 {K : KF} {b1 b2 b3 : Bool} {a1 a2 a3 : Addr} {xs ys zs : List V} {n : Nat} (hn : n = min xs.length (min ys.length zs.length)) : Walk (Itz3 K b1 a1 b2 a2 b3 a3) n (fun H => SqG K H b1 a1 xs ∧ SqG K H b2 a2 ys ∧ SqG K H b3 a3 zs) (YTri (fun i => xs[i]?) (fun i => ys[i]?) (fun i => zs[i]?)) := by
  subst hn
  refine ⟨fun i _ hi q => ?_, fun _ q => ⟨xs, ys, zs, q.1, q.2.1, q.2.2, by omega, by omega, by omega, by omega⟩, fun i H v H' _ q y => ?_⟩
  · have h1 : i < xs.length := by omega
    have h2 : i < ys.length := by omega
    have h3 : i < zs.length := by omega
    exact ⟨xs, ys, zs, xs[i], ys[i], zs[i], q.1, q.2.1, q.2.2, by simp [h1], by simp [h2], by simp [h3]⟩
  · obtain ⟨T, x, z, u, h1, h2, h3, h4, h5, h6⟩ := y
    exact ⟨T, x, z, u, h1, h2, h3, h4 xs q.1, h5 ys q.2.1, h6 zs q.2.2⟩
def iZ3 (K : KF) (ta : TA) : TI := fun σ H R => ta σ H fun vs H1 => ∃ b1 a1 b2 a2 b3 a3 xs ys zs, vs = [.ref a1, .ref a2, .ref a3] ∧ SqG K H1 b1 a1 xs ∧ SqG K H1 b2 a2 ys ∧ SqG K H1 b3 a3 zs ∧ R (Itz3 K b1 a1 b2 a2 b3 a3) H1
theorem pi_zip3 {X : Cx} {e e2 e3 : Expr} {ta : TA} {p pos tpos : Pos} {elts : List Expr} {kk : Nat} (hg : Gl X "zip") (hm : X.mg "zip" = none) (ha : PA X [e, e2, e3] ta)
    (hs : starEach [e, e2, e3] X.env = (false, eval e X.env) :: starEach [e2, e3] X.env := by rfl) (hpl : (backTo pos (starEach [e2, e3] X.env)).any (·.1) = false := by rfl) :
    PI X (.Tuple elts kk tpos) (.Call (.Name "zip" p) [e, e2, e3] [] pos) (iZ3 X.K ta) := by
  refine ⟨fun pins s σ H R I h => ?_⟩
  refine Call_ (ld_blt I hg hm PyProof.Rows.boot_zip (PyProof.Rows.callWith_type1 (thn (ha.run pos pins s σ H _ I h) fun us s1 ⟨vs, H1, I1, r1, q1⟩ => ?_) hs hpl))
  obtain ⟨b1, a1, b2, a2, b3, a3, xs, ys, zs, ex, hqx, hqy, hqz, q⟩ := q1
  subst ex
  cases r1 with
  | cons r rr =>
    cases rr with
    | cons r' rr =>
      cases rr with
      | cons r'' rr =>
        cases rr
        cases r
        cases r'
        cases r''
        obtain ⟨its, rv, p1⟩ := inv_G I1 hqx
        obtain ⟨its2, rv2, p2⟩ := inv_G I1 hqy
        obtain ⟨its3, rv3, p3⟩ := inv_G I1 hqz
        refine zip_begins3 (begins_G b1 a1 its.toArray) (begins_G b2 a2 its2.toArray) (begins_G b3 a3 its3.toArray) p1 p2 p3 fun h' hz hTI hTO h1 h2 h3 hsz hk => wpAny_pyIter_zip hz ?_
        have I2 : Inv X pins σ H1 { s1 with heap := h' } := I1.kept (t' := s1.toks) hk
        refine ⟨s1.heap.objs.size + 5, [s1.heap.objs.size + 5, s1.heap.objs.size + 3, s1.heap.objs.size + 4, s1.heap.objs.size, s1.heap.objs.size + 1, s1.heap.objs.size + 2], _, _, H1, rfl, I2, turn_zip3 (far3 s1.heap.objs.size a1 a2 a3 p1.lt p2.lt p3.lt), ⟨hz, hTI, ⟨_, _, _, hTO⟩, ItG.new h1, ItG.new h2, ItG.new h3⟩, fun c hcm => ?_, q⟩
        have e' : c = s1.heap.objs.size + 5 ∨ c = s1.heap.objs.size + 3 ∨ c = s1.heap.objs.size + 4 ∨ c = s1.heap.objs.size ∨ c = s1.heap.objs.size + 1 ∨ c = s1.heap.objs.size + 2 := by simpa using hcm
        have hle : s1.heap.objs.size ≤ c := by
          rcases e' with z | z | z | z | z | z
          · rw [z]; exact Nat.le_add_right _ _
          · rw [z]; exact Nat.le_add_right _ _
          · rw [z]; exact Nat.le_add_right _ _
          · rw [z]; exact Nat.le_refl _
          · rw [z]; exact Nat.le_add_right _ _
          · rw [z]; exact Nat.le_add_right _ _
        exact I1.fpOk hle (I1.hok.fresh hle)
def zip3 : List D → List D → List D → List D
  | x :: xs, y :: ys, z :: zs => .tup [x, y, z] :: zip3 xs ys zs
  | _, _, _ => []
def oZip3 (x y z : D) : Option (List D) := (oSeq x).bind fun p => (oSeq y).bind fun q => (oSeq z).map fun r => zip3 p.2 q.2 r.2
abbrev iZip3 (a b c : Env → R D) : Env → R (List D) := fun ρ => (a ρ).bind fun x => (b ρ).bind fun y => (c ρ).bind fun z => R.of (oZip3 x y z)
theorem zip3_len : ∀ (xs ys zs : List D), (zip3 xs ys zs).length = min xs.length (min ys.length zs.length)
  | [], _, _ => by simp [zip3]
  | _ :: _, [], _ => by simp [zip3]
  | _ :: _, _ :: _, [] => by simp [zip3]
  | x :: xs, y :: ys, z :: zs => by
    simp only [zip3, List.length_cons, zip3_len xs ys zs]
    omega
theorem zip3_at : ∀ {xs ys zs : List D} {i : Nat} {x y z : D}, xs[i]? = some x → ys[i]? = some y → zs[i]? = some z → (zip3 xs ys zs)[i]? = some (.tup [x, y, z])
  | [], _, _, _, _, _, _, h, _, _ => by simp at h
  | _ :: _, [], _, _, _, _, _, _, h, _ => by simp at h
  | _ :: _, _ :: _, [], _, _, _, _, _, _, h => by simp at h
  | x :: xs, y :: ys, z :: zs, 0, _, _, _, h, h', h'' => by simp at h h' h''; simp [zip3, h, h', h'']
  | x :: xs, y :: ys, z :: zs, i + 1, _, _, _, h, h', h'' => by
    simp only [List.getElem?_cons_succ] at h h' h''
    simp only [zip3, List.getElem?_cons_succ]
    exact zip3_at h h' h''
theorem itok_zip3 {K : KF} {F : Hp} {b1 b2 b3 : Bool} {a1 a2 a3 : Addr} {vs us ws : List V} {xs ys zs : List D} (h1 : SqG K F b1 a1 vs) (h2 : SqG K F b2 a2 us) (h3 : SqG K F b3 a3 ws) (r1 : RepL K F vs xs) (r2 : RepL K F us ys) (r3 : RepL K F ws zs) : ItOk K (Itz3 K b1 a1 b2 a2 b3 a3) F (zip3 xs ys zs) :=
  ⟨_, _, walk_zip3 (xs := vs) (ys := us) (zs := ws) (by rw [zip3_len, r1.len, r2.len, r3.len]), fun F' H s1 s2 => ⟨SqG.up s2 (SqG.up s1 h1), SqG.up s2 (SqG.up s1 h2), SqG.up s2 (SqG.up s1 h3)⟩, fun i F' H x H' s1 s2 hi y => by
    obtain ⟨T, x1, x2, x3, rfl, hT, rfl, e1, e2, e3⟩ := y
    obtain ⟨d1, f1, q1⟩ := r1.getV e1
    obtain ⟨d2, f2, q2⟩ := r2.getV e2
    obtain ⟨d3, f3, q3⟩ := r3.getV e3
    have up : Same F' (upd F' T (.tup [x1, x2, x3])) := Same.add (s2.out hT)
    exact ⟨.tup [d1, d2, d3], _, zip3_at f1 f2 f3, Grow.new s2 hT, .tup (.of upd_same) (.cons ((q1.mono s1).mono up) (.cons ((q2.mono s1).mono up) (.cons ((q3.mono s1).mono up) .nil)))⟩⟩
section
variable {X : Cx} {W : Wish} {a b c : Expr} {fa fb fc : Env → R D} {pos p tpos : Pos} {elts : List Expr} {kk : Nat}
theorem di_zip3 (hg : Gl X "zip") (hm : X.mg "zip" = none) (ha : DV X W a fa) (hb : DV X W b fb) (hc : DV X W c fc) (h1 : starEach (a :: [b, c]) X.env = (false, eval a X.env) :: starEach [b, c] X.env := by rfl) (h2 : starEach (b :: [c]) X.env = (false, eval b X.env) :: starEach [c] X.env := by rfl) (h3 : starEach (c :: []) X.env = (false, eval c X.env) :: starEach [] X.env := by rfl)
    (hpl : (backTo pos (starEach [b, c] X.env)).any (·.1) = false := by rfl) :
    DI X W (.Tuple elts kk tpos) (.Call (.Name "zip" p) [a, b, c] [] pos) (iZip3 fa fb fc) :=
  (pi_zip3 hg hm (pa_cons ha (pa_cons hb (pa_cons hc pa_nil h3) h2) h1) h1 hpl).weak fun σ H Q ⟨F0, H0, ρ, F, z, h⟩ => post_bind z rI_early h fun F1 H1 v x z1 g1 r1 h => post_bind z1 rI_early h fun F2 H2 u y z2 g2 r2 h => post_bind z2 rI_early h fun F3 H3 u' y' z3 g3 r3 h => by
    obtain ⟨items, e, hF⟩ := post_of h
    unfold oZip3 at e
    obtain ⟨⟨b1, xs⟩, e1, e2⟩ := Option.bind_eq_some_iff.mp e
    obtain ⟨⟨b2, ys⟩, e3, e4⟩ := Option.bind_eq_some_iff.mp e2
    obtain ⟨⟨b3, zs⟩, e5, e6⟩ := Option.map_eq_some_iff.mp e4
    subst e6
    obtain ⟨a1, vs1, rfl, f1, q1⟩ := rep_sq r1 e1
    obtain ⟨a2, vs2, rfl, f2, q2⟩ := rep_sq r2 e3
    obtain ⟨a3, vs3, rfl, f3, q3⟩ := rep_sq r3 e5
    have s1 : Same F1 F3 := g2.ff.trans g3.ff
    have s2 : Same F2 F3 := g3.ff
    exact ⟨b1, a1, b2, a2, b3, a3, vs1, vs2, vs3, rfl, SqG.up z3.sub (SqG.up s1 f1), SqG.up z3.sub (SqG.up s2 f2), SqG.up z3.sub f3, hF _ _ _ (Grow.refl z3.sub) (itok_zip3 (SqG.up s1 f1) (SqG.up s2 f2) f3 (q1.mono s1) (q2.mono s2) q3)⟩
end
end DL
/-! DL19: reversed slices, extend, isinstance against own classes. -/
namespace DL
open PySem PySem.Spec PyProof.Rows L2

theorem RepL.rev {K : KF} {F : Hp} : ∀ {vs : List V} {xs : List D}, RepL K F vs xs → RepL K F vs.reverse xs.reverse
  | _, _, .nil => .nil
  | _, _, .cons a t => by rw [List.reverse_cons, List.reverse_cons]; exact (RepL.rev t).app (.cons a .nil)
def oRev : D → Option (List D)
  | .lst xs => some xs.reverse
  | _ => none
section
variable {X : Cx} {W : Wish} {a : Expr} {fa : Env → R D} {pos p1 p2 p3 : Pos} {k : Nat}
theorem df_rev (ha : DB X W a fa) : DF X W (.Subscript a (.Slice none none (some (.UnaryOp .USub (.Constant (.int 1) k p1) p2)) p3) pos) (fun ρ => (fa ρ).bind fun x => R.of (oRev x)) :=
  (pe_revL ha).weak fun σ H Q ⟨F0, H0, ρ, F, z, h⟩ => post_bind z rF_early h fun F1 H1 v x z1 g1 r1 h => by
    obtain ⟨d, e, hF⟩ := post_of h
    unfold oRev at e
    split at e
    · cases e
      obtain ⟨p, vs, rfl, f, q⟩ := r1.lst' z1.sub
      exact ⟨p, vs, rfl, SqL.of f, fun l hl => fin_own z1.sub hF hl q.rev⟩
    · cases e
end

/-! ### xs.extend(ys), ys a list or a tuple -/
theorem list_extend_tupW (l : Addr) (items : Array Value) (n : Nat) (b : Addr) (items2 : Array Value) (n2 : Nat) (dd : Option Addr) (sl : Array (Option Value)) (hs0 : ¬(!items.isEmpty && Builtin.List.listTooLong (items.size + items2.size)) = true) (hs1 : items.size ≤ sizeLine) (hs2 : items.size + items2.size ≤ sizeLine + 1) :
    Meets (Builtin.«list.extend» ⟨[.ref l, .ref b], []⟩) (fun _ R s => s.heap.get? l = some { cls := .type "list", dict := none, data := .seq items n, slots := #[] } ∧ s.heap.get? b = some { cls := .type "tuple", dict := dd, data := .seq items2 n2, slots := sl } ∧ R (.ok (.ret Value.none)) { s with heap := s.heap.update l (Obj.mapSeq fun x => x ++ items2), toks := s.toks }) :=
  .of_wp fun prog w A R s h => by
    obtain ⟨hp, g, d, tk, os⟩ := s; obtain ⟨hl, hb, h⟩ := h; have f1 := AutoSeq1.idx_int; have f2 := AutoSeq1.sub_tuple_tuple; have f3 := AutoSeq1.sub_list_list; have f4 := AutoSeq1.sub_tuple_list; have f5 := AutoSeq1.sub_list_tuple;
    have hz' : (items ++ items2).size ≤ sizeLine + 1 := by rw [Array.size_append]; exact hs2
    wp_walk using (wpAny_updateSeq hl rfl (hz := hs1) (_hz' := hz')), wpAny_loadPart' hl, wpAny_loadPart' hb; exact ⟨_, rfl, h⟩
def rExtG (K : KF) : V → List V → Hp → VK → Prop := fun x vs H Q => ∃ l b xs zs, x = .ref l ∧ vs = [.ref b] ∧ H l = some (.lst xs) ∧ (H b = some (.lst zs) ∨ TupAt K H b zs) ∧ xs.length + zs.length ≤ sizeLine ∧ Q .non (upd H l (.lst (xs ++ zs)))
theorem mt_extG {X : Cx} : MtM X "list.extend" (rExtG X.K) := by
  intro pins s σ H x vs v us Q I rx rv h
  obtain ⟨l, b, xs, zs, rfl, rfl, hH, hB | hB | ⟨rfl, hB⟩, hz, q⟩ := h
  · exact mt_extend pins s σ H _ _ v us Q I rx rv ⟨l, b, xs, zs, rfl, rfl, hH, hB, hz, q⟩
  cases rx
  obtain ⟨u, rfl, ru⟩ := rv.one
  cases ru
  obtain ⟨z, its, n, r, hl, e⟩ := I.lstM hH
  obtain ⟨z2, its2, r2, o, h1, h2, n2, h3⟩ := (show ObjOk X.prog X.w H s.heap b (.tup zs) from I.hok b _ hB)
  obtain ⟨oc, od, dt, sl⟩ := o
  simp only at h2 h3
  subst h2 h3
  have l2 := r2.length
  have hsz : its.toArray.size + its2.toArray.size ≤ sizeLine := by rw [List.size_toArray, List.size_toArray]; omega
  have hlong : ¬ (!its.toArray.isEmpty && Builtin.List.listTooLong (its.toArray.size + its2.toArray.size)) = true := by
    rw [notLongL hsz, Bool.and_false]
    exact Bool.false_ne_true
  refine call_meets F.slot_list_extend ⟨_, e, rfl⟩ F.entry_list_extend (F.args_list_extend_2 _ _)
    (list_extend_tupW l its.toArray n b its2.toArray n2 od sl hlong (by rw [List.size_toArray]; omega) (by omega)) ⟨e, h1, ?_⟩
  refine ⟨.non, _, I.lset (its' := its ++ its2) hH e (by simp) (r.append r2) ?_, rfl, q⟩
  rw [List.length_append]
  omega
  cases rx
  obtain ⟨u, rfl, ru⟩ := rv.one
  cases ru
  obtain ⟨z, its, n, r, hl, e⟩ := I.lstM hH
  obtain ⟨o, its2, n2, h1, h2, h3, h4, h5⟩ := hB
  have h1 := I.kIn _ _ h1
  obtain ⟨oc, od, dt, sl⟩ := o
  simp only at h2 h3
  subst h2 h3
  have l2 : its2.toList.length = 0 := h5.length.symm
  have hsz : its.toArray.size + its2.size ≤ sizeLine := by rw [List.size_toArray]; rw [Array.length_toList] at l2; simp only [List.length_nil] at hz; omega
  have hlong : ¬ (!its.toArray.isEmpty && Builtin.List.listTooLong (its.toArray.size + its2.size)) = true := by
    rw [notLongL hsz, Bool.and_false]
    exact Bool.false_ne_true
  refine call_meets F.slot_list_extend ⟨_, e, rfl⟩ F.entry_list_extend (F.args_list_extend_2 _ _)
    (list_extend_tupW l its.toArray n b its2 n2 od sl hlong (by rw [List.size_toArray]; omega) (by omega)) ⟨e, h1, ?_⟩
  rw [List.append_nil] at q
  have e0 : its2 = #[] := by
    apply Array.eq_empty_of_size_eq_zero
    rw [← Array.length_toList]; exact l2
  subst e0
  refine ⟨.non, _, I.lset (its' := its) hH e (by simp) r (by simp only [List.length_nil] at hz; omega), rfl, q⟩
section
variable {X : Cx} {W : Wish} {e : Expr} {pos : Pos}
abbrev sExt (i : Nat) (f : Env → R D) : Env → Option Out := fun ρ => (slotL i ρ).bind fun xs => withR (f ρ) ρ fun d => (rowOf d).bind fun ys => if xs.length + ys.length ≤ 16777216 then some (.nx (ρ.set i (some (.ml (xs ++ ys))))) else none
theorem ds_extend (i : Nat) {x : Str} {p apos cpos : Pos} {f : Env → R D} (hv : PE X (.Name x p) (tVar i)) (he : DV X W e f)
    (hst : starEach (e :: []) X.env = (false, eval e X.env) :: starEach [] X.env := by rfl)
    (hbase : attributeBase (.Name x p) "extend" X.env (eval (.Name x p) X.env) = eval (.Name x p) X.env := by rfl)
    (hfew : ((backTo cpos (starEach (e :: []) X.env)).all (fun x => !x.1) && (backToKw cpos (keywordEach [] X.env)).all (fun x => x.1.isSome)
      && decide ((e :: []).length + ([] : List Keyword).length + (if ([] : List Keyword).isEmpty then 0 else 1) < 30)) = true := by rfl)
    (hline : (apos.endLine == cpos.line) = true := by rfl) (hplain : (backTo cpos (starEach [] X.env)).any (·.1) = false := by rfl)
    (hs : swapsWith (.Call (.Attribute (.Name x p) "extend" apos) [e] [] cpos) none pos.line X.env = pure false := by rfl) :
    DS X W (.Expr (.Call (.Attribute (.Name x p) "extend" apos) [e] [] cpos) pos) (sExt i f) :=
  (ps_expr (pe_bm PySem.F.plainAttrs_list PySem.F.slot_list_extend PySem.F.type_list_extend mt_extG hv (pa_cons he pa_nil hst) hbase hfew hline hst hplain) hs).weak fun D σ H ⟨F0, H0, ρ, F, o, z, e, ho⟩ => by
    obtain ⟨xs, q, e⟩ := Option.bind_eq_some_iff.mp e
    have q := slotL_some q
    obtain ⟨v, e1, a, vs, rfl, h0, hf, hh, r⟩ := z.slot i _ q
    refine ⟨_, e1, .inl ⟨rfl, vs, SqL.of hh⟩, tS_expr z e ho fun w d F1 H1 z1 g1 rw ee => ?_⟩
    obtain ⟨v', e1', a', vs', ea, h0', hf', hh', r'⟩ := z1.slot i _ q
    rw [e1] at e1'
    cases e1'
    cases ea
    obtain ⟨ys, er, e4⟩ := Option.bind_eq_some_iff.mp ee
    clear ee
    split at e4
    · rename_i hl
      cases e4
      have rw : Rep X.K F1 w d := rw
      cases rw with
      | @lst b us ds fb rl =>
        cases er
        exact ⟨a, b, vs', us, rfl, rfl, hh', .inl (z1.sub _ _ fb), by rw [sizeLine_eq, r'.len, rl.len]; exact hl, ho σ F1 _ (z1.updL q e1 (r'.app rl))⟩
      | @tup b us ds fb rl =>
        cases er
        exact ⟨a, b, vs', us, rfl, rfl, hh', .inr (fb.up z1.sub), by rw [sizeLine_eq, r'.len, rl.len]; exact hl, ho σ F1 _ (z1.updL q e1 (r'.app rl))⟩
      | _ => cases er
    · cases e4
end

/-! ### isinstance(x, C), C an own class -/
/-- what of the text a class must have for isinstance -/
structure Inst (K : KF) (C : Addr) : Prop where
  ha : PySem.W.findIn K (.ref C) "__class__" = some (some (.builtin "object.__class__"))
  hn : PySem.W.specialIn K (.builtin "object.__class__") "__get__" = some (some (.builtin "getset_descriptor.__get__"))
  htk : PySem.W.takesIn K (.builtin "object.__class__") = some true
  hm : PySem.W.mroIn K C (.type "object") = some true
def IsOwn (K : KF) (mg : Str → Option Value) (n : Str) : Prop := ∃ C, mg n = some (.ref C) ∧ PySem.W.nsIn K mainGlobals n = some (some (.ref C)) ∧ Inst K C
def isO (n : Str) : D → Option Bool
  | .obj m _ => if m = n then some true else none
  | _ => none
abbrev eIsO (n : Str) (a : Env → R D) : Env → R D := fun ρ => (a ρ).bind fun x => R.of ((isO n x).map .bl)
section
variable {X : Cx} {W : Wish} {a : Expr} {fa : Env → R D} {pos p p2 : Pos} {n : Str}
theorem dv_isO (hg : Gl X "isinstance") (hm : X.mg "isinstance" = none) (O : IsOwn X.K X.mg n) (hgn : Gl X n) (ha : DB X W a fa) (hdb : (n == ("__debug__" : Str)) = false := by decide)
    (he : starEach (a :: [.Name n p2]) X.env = (false, eval a X.env) :: starEach [.Name n p2] X.env := by rfl) (he2 : starEach (.Name n p2 :: []) X.env = (false, eval (.Name n p2) X.env) :: starEach [] X.env := by rfl) (hpl : (backTo pos (starEach [.Name n p2] X.env)).any (·.1) = false := by rfl) :
    DV X W (.Call (.Name "isinstance" p) [a, .Name n p2] [] pos) (eIsO n fa) := by
  obtain ⟨C, h1, h2, h3⟩ := O
  have hT : PE X (.Name n p2) (tC (.ref C)) := pe_glob hgn h1 rfl hdb
  refine (pe_callB call_isi hg hm (by decide +kernel) (pa_cons ha (pa_cons hT pa_nil he2) he) (by decide) (by decide) he hpl).weak fun σ H Q ⟨F0, H0, ρ, F, z, h⟩ => post_bind z rV_early h fun F1 H1 v x z1 g1 r1 h => ?_
  obtain ⟨d, e, hF⟩ := post_of h
  obtain ⟨b, e1, e2⟩ := Option.map_eq_some_iff.mp e
  subst e2
  unfold isO at e1
  split at e1
  · split at e1
    · rename_i m fs hmn
      cases e1
      subst hmn
      obtain ⟨a, C', dx, es, rfl, f, c, q⟩ := r1.obj z1.sub
      have ec : C' = C := by
        have := c.at_
        rw [h2] at this
        cases this
        rfl
      subst ec
      exact ⟨.ref a, .ref C', .ref C', .ref C', true, rfl, .own C', .base (.ins f c.cls h3.ha h3.hn h3.htk h3.hm), by unfold PySem.W.kitOne; rw [if_pos (by exact beq_self_eq_true _)], hF _ _ _ (Grow.refl z1.sub) (.bl _)⟩
    · cases e1
  · cases e1
end
def oNeg : D → Option D
  | .int i => some (.int (-i))
  | _ => none
theorem dv_neg {X : Cx} {W : Wish} {a : Expr} {fa : Env → R D} {pos : Pos} (ha : DB X W a fa) : DV X W (.UnaryOp .USub a pos) (fun ρ => (fa ρ).bind fun x => R.of (oNeg x)) :=
  (pe_un un_neg ha).weak fun σ H Q ⟨F0, H0, ρ, F, z, h⟩ => post_bind z rV_early h fun F1 H1 v x z1 g1 r1 h => by
    obtain ⟨k, e, hQ⟩ := post_of h
    unfold oNeg at e
    split at e
    · cases e
      exact ⟨_, r1.int, hQ _ _ _ (Grow.refl z1.sub) (.int _)⟩
    · cases e
end DL
/-! DL17: the law's end. -/
namespace DL
open PySem PySem.Spec PyProof.Rows L2

theorem fun_D {K : KF} {x qual : Str} {st : Stmt} {f : Addr} {fd : FuncData} (F : FunD K x qual (defArgs st) (defBody st) (defScope st) [] [] f fd) : Fun K x qual st f fd := by
  obtain ⟨oc, od, dV, kV, doc, pm, an, cdv, ct, osl, e, lk, hcd, hD, hK⟩ := F.ex
  rcases hD with ⟨_, rfl⟩ | ⟨z, _⟩
  · exact ⟨⟨oc, od, kV, doc, pm, an, cdv, ct, osl, e, lk, hcd⟩, F.kp⟩
  · exact absurd rfl z
theorem has_def {K : KF} {mg : Str → Option Value} {x : Str} {st : Stmt} {ps : List Str} {f : Addr} {fd : FuncData} (hm : mg x = some (.ref f)) (F : FunD K x x (defArgs st) (defBody st) (defScope st) [] [] f fd)
    (hb : ∀ (kV doc pm : Value) (an : Option Addr) (cdv ct : Value) (us : List Value), us.length = ps.length → bindArgs (PySem.W.fnOf x x (defArgs st) (defBody st) (defScope st) .none kV doc pm an cdv ct) ⟨us, []⟩ = pure (ps.zip us)) : Has K mg x st ps :=
  ⟨f, fd, hm, fun_D F, F.bindsN hb⟩
theorem hasI_def {K : KF} {mg : Str → Option Value} {n qual : Str} {all : List Str} {st : Stmt} {ps : List Str} {C f : Addr} {fd : FuncData} (hm : mg n = some (.ref C)) (M : Mk K C f) (at_ : PySem.W.nsIn K mainGlobals n = some (some (.ref C))) (cls : Cls K C) (no : ∀ f, f ∈ all → NoAttr K C f)
    (F : FunD K "__init__" qual (defArgs st) (defBody st) (defScope st) [] [] f fd)
    (hb : ∀ (kV doc pm : Value) (an : Option Addr) (cdv ct : Value) (us : List Value), us.length = ps.length → bindArgs (PySem.W.fnOf "__init__" qual (defArgs st) (defBody st) (defScope st) .none kV doc pm an cdv ct) ⟨us, []⟩ = pure (ps.zip us)) : HasI K mg n all st ps qual :=
  ⟨C, f, fd, [], hm, M, F.bindsN hb, ⟨at_, cls, no⟩, F⟩
/-- .. with one default, all arguments given -/
theorem hasI_def1 {K : KF} {mg : Str → Option Value} {n qual : Str} {all : List Str} {st : Stmt} {ps : List Str} {C f : Addr} {fd : FuncData} {dv : V} (hm : mg n = some (.ref C)) (M : Mk K C f) (at_ : PySem.W.nsIn K mainGlobals n = some (some (.ref C))) (cls : Cls K C) (no : ∀ f, f ∈ all → NoAttr K C f)
    (F : FunD K "__init__" qual (defArgs st) (defBody st) (defScope st) [dv] [] f fd)
    (hb : ∀ (T : Addr) (kV doc pm : Value) (an : Option Addr) (cdv ct : Value) (us its : List Value), us.length = ps.length → its.length = 1 →
      ∃ k, bindArgs (PySem.W.fnOf "__init__" qual (defArgs st) (defBody st) (defScope st) (.ref T) kV doc pm an cdv ct) ⟨us, []⟩ = seqItems? (.ref T) >>= k ∧ k (some its.toArray) = pure (ps.zip (us ++ its.drop 1))) : HasI K mg n all st ps qual := by
  obtain ⟨ds, h1, h2⟩ := FunD.binds1 (ps := ps) F ps.length 1 (List.cons_ne_nil _ _) (by simp) hb
  have e : ds = [] := by cases h1; rfl
  subst e
  exact ⟨C, f, fd, [dv], hm, M, h2, ⟨at_, cls, no⟩, F⟩
/-! ### the head's facts, and more of them -/
def hookX (n : Nat) (fa : List He.Fa) (fn : List He.DefD) (ex : KF → Bool) : PySem.W.Hook where
  α := He.AlD × Bool
  obs := fun s => (He.obsDG n fa fn s.heap.get?, ex (He.frG s.heap.get? (He.asD s.heap.get? n)))
  val := fun _ => (He.valD fn, true)
  says := fun _ h => ∃ K : KF, K.In h ∧ He.SaysD fa fn K ∧ ex K = true
  of := fun _ _ e => ⟨_, He.frG_in, congrArg Prod.fst e, congrArg Prod.snd e⟩
  keeps := fun _ _ _ ⟨K, hK, c⟩ k => ⟨K, PySem.W.Frag.In.keeps hK k, c⟩
def obsX (n : Nat) (fa : List He.Fa) (fn : List He.DefD) (ex : KF → Bool) (g : Addr → Option Obj) : He.AlD × Bool := (He.obsDG n fa fn g, ex (He.frG g (He.asD g n)))
theorem obsX_eq {n : Nat} {fa : List He.Fa} {fn : List He.DefD} {ex : KF → Bool} {g : Addr → Option Obj} {s : Shared} (h : ∀ a, g a = s.heap.get? a) : obsX n fa fn ex g = (hookX n fa fn ex).obs s := by
  have e : g = s.heap.get? := funext h
  rw [e]
  rfl
def instB (K : KF) (x : Str) : Bool := He.eqO (PySem.W.findIn K (.ref (He.ga K x)) "__class__") (some (some (.builtin "object.__class__"))) && (He.eqO (PySem.W.specialIn K (.builtin "object.__class__") "__get__") (some (some (.builtin "getset_descriptor.__get__"))) &&
  (decide (PySem.W.takesIn K (.builtin "object.__class__") = some true) && decide (PySem.W.mroIn K (He.ga K x) (.type "object") = some true)))
theorem inst_ok {K : KF} {x : Str} (h : instB K x = true) : Inst K (He.ga K x) := by
  obtain ⟨h1, h⟩ := He.ba h
  obtain ⟨h2, h⟩ := He.ba h
  obtain ⟨h3, h4⟩ := He.ba h
  exact ⟨He.eqO_ok h1, He.eqO_ok h2, of_decide_eq_true h3, of_decide_eq_true h4⟩
/-- a law: F gives the written part, the function object, the promise over every base -/
theorem walk_ofX {l : PySem.W.OpenLaw} {n k : Nat} {q : Program} {loose : List Str} {XP : (Str → Option Value) → Heap → Prop} {YP : World → Heap → Prop} {d : DefRec} {CX : World → CXT} {x : Str}
    (hn : l.most = some n) (hn2 : n ≤ sizeLine) (hdf : d.params.defaults = []) (hr : Room k callerA)
    (F : ∀ (w : World) (mg : Str → Option Value) (fa : Addr) (h : Heap), YP w h → h.Ns mainGlobals mg → mg d.name = some (.ref fa) →
      ∃ (K : PySem.W.Frag) (fd : FuncData) (sp : Sp), K.In h ∧ (∀ (s : Shared) (u : Value), BindsTo s fd ⟨[u], []⟩ [(x, u)]) ∧
        (∀ (H : Hp) (a : Addr) (ns : List Int), ns.length ≤ n → Only H → SqL K H a (ns.map V.int) → sp [.ref a] H (fun v _ => v = .bl true) fun _ _ _ => False) ∧
        ∀ base : Heap, K.In base → base.Ns mainGlobals mg → FnOk l.prog w K mg base (CX w) k fa fd [x] sp)
    (hCX : ∀ (w : World) (H : Hp) (s : Shared) (e : Value) (s' : Shared), CX w [] H s (fun _ _ _ => False) e s' → False) :
    PySem.W.WalkO q loose XP YP l.row.toRowW d [] (fun f vs => PySem.call f vs) := by
  refine Att.attach_call hn hdf fun w s₀ s₁ mg mb fa o pm cd doc a vs ns G Y ho hd hcd hmg hobj hints hlen hg => ?_
  obtain ⟨K, fd, sp, KX, hb, hsp, hF⟩ := F w mg fa _ Y G.T.g hmg
  exact law_call KX G.T.g G.T.b G.T.builtins G.T.nolimit hg hobj hints (Nat.le_trans hlen hn2) hr hF hb (fun H hO hS => hsp H a ns hlen hO hS) fun H e s' => hCX w H s₁ e s'
theorem cx_none {P : Program} {w : World} {H : Hp} {s s' : Shared} {e : Value} (h : L2.CX P w [] H s (fun _ _ _ => False) e s') : False := by
  obtain ⟨_, _, _, _, _, _, _, _, _, _, _, _, z⟩ := h
  exact z
theorem spD_law {K : KF} {mg : Str → Option Value} {m : List D → R Ret} {H : Hp} {a : Addr} {ns : List Int} (h : m [.scr ns] = .ok (.val (.bl true))) (hS : SqL K H a (ns.map V.int)) : spD K mg 1 m [.ref a] H (fun v _ => v = .bl true) fun _ _ _ => False := by
  refine ⟨rfl, H, [.scr ns], Same.refl _, .cons (.scr hS) .nil, ?_⟩
  rw [h]
  intro v F' H' g r
  cases r
  rfl
end DL
/-! DL20: C(..) whose last parameter is left to its default, the empty tuple. -/
namespace DL
open PySem PySem.Spec PyProof.Rows L2

section
variable {X : Cx} {CX : CXT} {k : Nat} {f C : Addr} {fd : FuncData} {ps : List Str} {sp : Sp} {E : L2.St → XK} {x : Str} {p pos : Pos} {e : Expr} {es : List Expr} {t : TA}
def tMakeD (C : Addr) (a : Addr) (sp : Sp) (E : L2.St → XK) (t : TA) : TE := fun σ H Q => t σ H fun vs H1 => ∀ x dx, H1 x = none → H1 dx = none → dx ≠ x → sp ((.ref x :: vs) ++ [.ref a]) (upd (upd H1 dx (.own x)) x (.ins C dx [])) (fun v H2 => v = .non ∧ Q (.ref x) H2) (E σ)
theorem run_makeD {a : Addr} {pins : List (Addr × Obj)} {σ : L2.St} {H : Hp} {s : Shared} {Q : VK} {us : List Value} {vs : List V} (M : Mk X.K C f) (F : FnOk X.prog X.w X.K X.mg X.base CX k f fd ps sp) (hr : Room (k + 1) X.A) (hb : Binds X.K fd ps [.ref a])
    (hx : PassesAt CX X σ (E σ)) (I : Inv X pins σ H s) (r : Vals vs us)
    (h : ∀ x dx, H x = none → H dx = none → dx ≠ x → sp ((.ref x :: vs) ++ [.ref a]) (upd (upd H dx (.own x)) x (.ins C dx [])) (fun v H2 => v = .non ∧ Q (.ref x) H2) (E σ)) :
    wpAny (model X.prog X.w) X.A (call (.ref C) us) (EP X pins σ Q) X.xe s := by
  have hq := h (s.heap.objs.size + 1) s.heap.objs.size (I.hok.fresh (Nat.le_succ _)) (I.hok.fresh (Nat.le_refl _)) (Nat.ne_of_lt (Nat.lt_succ_self _))
  have I2 := Inv.made (C := C) I
  have r2 : Vals (V.ref (s.heap.objs.size + 1) :: vs) (Value.ref (s.heap.objs.size + 1) :: us) := .cons rfl r
  have r3 : Vals ((V.ref (s.heap.objs.size + 1) :: vs) ++ [V.ref a]) ((Value.ref (s.heap.objs.size + 1) :: us) ++ [Value.ref a]) := r2.append (.cons rfl .nil)
  have hl : ((Value.ref (s.heap.objs.size + 1) :: us) ++ [Value.ref a]).length = ps.length := by
    have e := r3.length
    rw [F.len _ _ _ _ hq] at e
    exact e.symm
  have b := hb _ (Value.ref (s.heap.objs.size + 1) :: us) I2.kIn hl
  refine wpAny_call (make_map (f := f) I.kIn M.makes M.init (beq_iff_eq.mp M.fn) (codeAny_mono (F.run _ X.stack _ _ ⟨Value.ref (s.heap.objs.size + 1) :: us, []⟩ ((Value.ref (s.heap.objs.size + 1) :: us) ++ [Value.ref a]) _ _ (E σ) (hr.make C us [])
    (I2.env0.make C us []) b r3 hq) fun r s' hq' => ?_))
  cases r with
  | error e => exact hx pins _ _ e s' I2 hq'
  | ok fl =>
    cases fl with
    | ret u =>
      obtain ⟨v, H', I3, rv, ev, q3⟩ := I2.after hq'
      subst ev
      exact ⟨rv, ⟨V.ref (s.heap.objs.size + 1), H', I3, rfl, q3⟩⟩
    | next => exact False.elim hq'
    | brk => exact False.elim hq'
    | cont => exact False.elim hq'
theorem pe_makeD {a : Addr} (M : Mk X.K C f) (F : FnOk X.prog X.w X.K X.mg X.base CX k f fd ps sp) (hr : Room (k + 1) X.A) (hg : Gl X x) (hm : X.mg x = some (.ref C)) (hb : Binds X.K fd ps [.ref a]) (hx : ∀ σ, PassesAt CX X σ (E σ))
    (ha : PA X (e :: es) t) (hdb : (x == ("__debug__" : Str)) = false := by decide) (he : starEach (e :: es) X.env = (false, eval e X.env) :: starEach es X.env := by rfl) (hpl : (backTo pos (starEach es X.env)).any (·.1) = false := by rfl) :
    PE X (.Call (.Name x p) (e :: es) [] pos) (tMakeD C a sp E t) := by
  refine ⟨fun pins s σ H Q I h => ?_⟩
  refine wpAny_Call_Name_kw (ld_glob I hg hm ?_ hdb)
  refine PySem.W.callWith_K (h₀ := X.base) I.ok.mod.kin M.kp (thn (ha.run pos pins s σ H _ I h) fun us s1 ⟨vs, H1, I1, r, q⟩ => ⟨I1.kIn, ?_⟩) he hpl
  exact run_makeD M F hr hb (hx σ) I1 r q
end
/-- .. and of a class whose last parameter has the empty tuple for its default -/
def KeepsID (P : Program) (w : World) (K : KF) (mg : Str → Option Value) (base : Heap) (n : Str) (all : List Str) (k : Nat) (ps : List Str) (np : Nat) (m : List D → R (List (Str × D))) : Prop :=
  ∃ C f fd a, mg n = some (.ref C) ∧ Mk K C f ∧ Binds K fd ps [.ref a] ∧ KNil K a ∧ IsCls K n C all ∧ FnOk P w K mg base (L2.CX P w) k f fd ps (spI K mg n all np m)
def HasID (K : KF) (mg : Str → Option Value) (n : Str) (all : List Str) (st : Stmt) (ps : List Str) (qual : Str) : Prop := ∃ C f fd a dvs, mg n = some (.ref C) ∧ Mk K C f ∧ Binds K fd ps [.ref a] ∧ KNil K a ∧ IsCls K n C all ∧ FunD K "__init__" qual (defArgs st) (defBody st) (defScope st) dvs [] f fd
theorem keepsID_of {P : Program} {w : World} {K : KF} {mg : Str → Option Value} {base : Heap} {n qual : Str} {all : List Str} {st : Stmt} {N ps : List Str} {k np : Nat} {g : Env → Option Out} (h : HasID K mg n all st ps qual) (Sc : FnScope N ps (defScope st)) (hn : ps.length = np + 1)
    (hbody : ∀ (f : Addr) (cdv : Value) (A : Around) (outer : List PySem.Env) (s : Shared) (H : Hp) (E : XK), Room k (A.deeper (envOfC qual (defScope st) s.heap.objs.size f cdv)) →
      DSs (cxOf (L2.CX P w) P w K mg base N qual (defScope st) f cdv A outer s H E) (wish mg fun cls d _ H => E cls d H) (defBody st) g) :
    KeepsID P w K mg base n all (k + 1) ps np (runI N.length np n all g) := by
  obtain ⟨C, f, fd, a, dvs, h1, h2, h3, kn, h4, h5⟩ := h
  exact ⟨C, f, fd, a, h1, h2, h3, kn, h4, init_ok h5 Sc hn (hbody f)⟩
abbrev eMakeD (n : Str) (m : List D → R (List (Str × D))) (fs : Env → R (List D)) : Env → R D := fun ρ => (fs ρ).bind fun ds => (m (ds ++ [.tup []])).map (D.obj n)
section
variable {X : Cx} {W' : WX} {e : Expr} {es : List Expr} {fs : Env → R (List D)} {m : List D → R (List (Str × D))} {k np : Nat} {ps : List Str} {n : Str} {all : List Str} {p pos : Pos}
theorem dv_makeD (G : KeepsID X.prog X.w X.K X.mg X.base n all k ps (np + 1) m) (hr : Room (k + 1) X.A) (tk : Takes X W') (hg : Gl X n)
    (ha : DA X (wish X.mg W') (e :: es) fs) (hfs : AL fs np) (hdb : (n == ("__debug__" : Str)) = false := by decide) (he : starEach (e :: es) X.env = (false, eval e X.env) :: starEach es X.env := by rfl) (hpl : (backTo pos (starEach es X.env)).any (·.1) = false := by rfl) :
    DV X (wish X.mg W') (.Call (.Name n p) (e :: es) [] pos) (eMakeD n m fs) := by
  obtain ⟨C, f, fd, a, h1, h2, h3, kn, h4, h5⟩ := G
  refine (pe_makeD h2 h5 hr hg h1 h3 (fun σ => passAt tk σ) ha hdb he hpl).weak fun σ H Q ⟨F0, H0, ρ, F, z, h⟩ => ?_
  refine ⟨F0, H0, ρ, F, z, ?_⟩
  have h : Post (wish X.mg W') (rV X.K) F H σ ((fs ρ).bind fun ds => (m (ds ++ [.tup []])).map (D.obj n)) Q := h
  cases q : fs ρ with
  | stuck => rw [q] at h; exact h
  | err c => rw [q] at h; exact h
  | ok ds =>
    rw [q] at h
    intro vs F1 H1 g1 r1 x dx hx hdx ndx
    have h2 : Post (wish X.mg W') (rV X.K) F1 H1 σ ((m (ds ++ [.tup []])).map (D.obj n)) Q := Post.later rV_early g1 h
    have r1 : RepL X.K F1 vs ds := r1
    have r2 : RepL X.K F1 (vs ++ [.ref a]) (ds ++ [.tup []]) := r1.app (.cons (.tup (.inr ⟨rfl, kn⟩) .nil) .nil)
    have nx : F1 x = none := g1.fh.out hx
    have ndx1 : F1 dx = none := g1.fh.out hdx
    have s1 : Same H1 (era (upd (upd H1 dx (.own x)) x (.ins C dx [])) x) := fun b u e => by
      have b1 : b ≠ x := fun q => by rw [q, hx] at e; cases e
      have b2 : b ≠ dx := fun q => by rw [q, hdx] at e; cases e
      rw [era_ne b1, upd_ne b1, upd_ne b2]; exact e
    refine ⟨by rw [List.cons_append, List.length_cons, RepL.len r2, List.length_append, hfs ρ ds q]; rfl, x, C, dx, vs ++ [.ref a], ds ++ [.tup []], F1, rfl, upd_same, nx, h4, fun b u e => ?_, r2, ?_⟩
    · have b1 : b ≠ x := fun q => by rw [q, nx] at e; cases e
      have b2 : b ≠ dx := fun q => by rw [q, ndx1] at e; cases e
      rw [upd_ne b1, upd_ne b2]; exact g1.fh b u e
    have up : ∀ {F' H' : Hp}, Grow F1 (era (upd (upd H1 dx (.own x)) x (.ins C dx [])) x) F' H' → Grow F1 H1 F' H' := fun g => ⟨s1.trans g.hh, g.ff, g.fh, fun b hb hf => g.nn b (fun q => hb (s1.free q)) hf⟩
    cases q2 : m (ds ++ [.tup []]) with
    | stuck => rw [q2] at h2; exact h2
    | err c => rw [q2] at h2; exact fun F' H' C g hC => h2 F' H' (up g) C hC
    | ok fl =>
      rw [q2] at h2
      intro F' H' C' dx' es' g hF' hH' rf c' ca'
      refine ⟨rfl, h2 (.ref x) (upd F' x (.ins C' dx' es')) H' ?_ (.obj upd_same ⟨c'.at_, c'.cls, fun f hf => c'.no f (ca' f hf)⟩ (rf.mono (Same.add hF')))⟩
      have g := up g
      refine ⟨g.hh, g.ff.trans (Same.add hF'), fun b u e => ?_, fun b hb hf => ?_⟩
      · by_cases hb : b = x
        · subst hb; rw [upd_same] at e; cases e; exact hH'
        · rw [upd_ne hb] at e; exact g.fh b u e
      · rw [upd_ne (fun q => hb (by rw [q]; exact hx))]; exact g.nn b hb hf
end
/-- the default of the class's __init__ is K's empty tuple -/
def knilB (K : KF) (a : Addr) : Bool := match List.lookup a K with
  | some o => decide (o.cls = Value.type "tuple") && (match o.data with | .seq its _ => its.isEmpty | _ => false)
  | none => false
theorem knil_ok {K : KF} {a : Addr} (h : knilB K a = true) : KNil K a := by
  unfold knilB at h
  split at h
  · rename_i o q
    obtain ⟨h1, h2⟩ := He.ba h
    split at h2
    · rename_i its n q2
      have e : its = #[] := by simpa using h2
      subst e
      exact ⟨o, #[], n, q, of_decide_eq_true h1, q2, Nat.zero_le _, .nil⟩
    · cases h2
  · cases h
theorem hasID_def1 {K : KF} {mg : Str → Option Value} {n qual : Str} {all : List Str} {st : Stmt} {ps : List Str} {C f a : Addr} {fd : FuncData} (hm : mg n = some (.ref C)) (M : Mk K C f) (at_ : PySem.W.nsIn K mainGlobals n = some (some (.ref C))) (cls : Cls K C) (no : ∀ f, f ∈ all → NoAttr K C f)
    (F : FunD K "__init__" qual (defArgs st) (defBody st) (defScope st) [.ref a] [] f fd) (kn : KNil K a) (hp : 1 ≤ ps.length)
    (hb : ∀ (T : Addr) (kV doc pm : Value) (an : Option Addr) (cdv ct : Value) (us its : List Value), us.length = ps.length - 1 → its.length = 1 →
      ∃ k, bindArgs (PySem.W.fnOf "__init__" qual (defArgs st) (defBody st) (defScope st) (.ref T) kV doc pm an cdv ct) ⟨us, []⟩ = seqItems? (.ref T) >>= k ∧ k (some its.toArray) = pure (ps.zip (us ++ its.drop 0))) : HasID K mg n all st ps qual := by
  obtain ⟨ds, h1, h2⟩ := FunD.binds1 (ps := ps) F (ps.length - 1) 0 (List.cons_ne_nil _ _) (by show ps.length - 1 + 1 = ps.length; omega) hb
  have e : ds = [.ref a] := by
    cases h1 with
    | cons q t => cases t; cases q; rfl
  subst e
  exact ⟨C, f, fd, a, [.ref a], hm, M, h2, kn, ⟨at_, cls, no⟩, F⟩
end DL
/-! DL21: set(xs), xs a list of ints. -/
namespace DL
open PySem PySem.Spec PyProof.Rows L2

/-! ### set(xs), xs a list of ints -/
set_option maxHeartbeats 3200000 in
theorem set_of_ints {prog : Program} {w : World} {A : Around} {E Q : Value → Shared → Prop} {s : Shared} {la : Addr} {vals : Array Value} {ns : List Int} (quiet : A.handled = none) (isq : s.heap.IsList la vals) (num : IntsAre vals.toList ns) (few : ns.length + 1 < scanBound)
    (post : ∀ (h' : Heap) (tk c : Nat), SetR w h' s.heap.objs.size (fun j => decide (j ∈ ns)) c → c ≤ ns.length → (∀ b o, s.heap.get? b = some o → h'.get? b = some o) → Q (.ref s.heap.objs.size) { s with heap := h', toks := tk }) :
    wpAny (model prog w) A (call (.type "set") [.ref la]) Q E s := by
  have ⟨c0, tl0, mro0⟩ := PySem.F.called_set.mro
  have made0 := PySem.F.called_set.made
  have sub0 := PySem.F.called_set.sub
  have lens : vals.size = ns.length := by rw [← PyProof.Rows.IntsAre.length num, Array.length_toList]
  refine wpAny_call (codeAny_of_tree ?_)
  show wpAny _ _ (callAny (.type "set") _) _ _ _
  refine wpAny_pure ⟨Code.quiet_builtin _ (by decide +kernel), codeAny_builtin PySem.F.entry_type_call ?_⟩
  rw [Around.under_plain (weight_type_call_type "set" [.ref la] []) rfl]
  have nt0 := PySem.F.called_set.notType
  have cc0 := PySem.F.called_set.canCreate
  have tc0 := PySem.F.typeCall_set_1 (.ref la)
  repeat (any_goals (first | assumption | wp_step))
  generalize eled : (!w.params.followText "set-order") = led
  refine codeAny_mono (code_set_led1 (.ref la) (E := E) (Q₁ := fun ob s1 => ob = .ref s.heap.objs.size ∧ s1 = { s with heap := s.heap.push (emptySet led) }) (by rw [eled]; exact ⟨rfl, rfl⟩)) fun r s1 hr => ?_
  cases r with
  | error e => exact hr
  | ok fl =>
  cases fl with
  | ret ob =>
    obtain ⟨rfl, rfl⟩ := hr
    have gS : (s.heap.push (emptySet led)).get? s.heap.objs.size = some (emptySet led) := Heap.get?_push_size _ rfl
    have tS : Shared.TypeIs { s with heap := s.heap.push (emptySet led) } (.ref s.heap.objs.size) "set" := ⟨_, gS, rfl⟩
    have il := PySem.F.called_set.init.lookup
    have ib := PySem.F.called_set.init.bind (.ref s.heap.objs.size)
    repeat (any_goals (first | assumption | wp_step))
    refine codeAny_mono (codeAny_call_builtin (R := wants (fun r s2 => r = .none ∧ ∃ h' tk c, s2 = { s with heap := h', toks := tk } ∧ SetR w h' s.heap.objs.size (fun j => decide (j ∈ ns)) c ∧ c ≤ ns.length ∧ (∀ b o, s.heap.get? b = some o → h'.get? b = some o)) E) PySem.F.called_set.init.plain PySem.F.entry_set_init (check_set_init_1 tS ?_)) fun r2 s2 hr2 => ?_
    · obtain ⟨⟨ocls, odct, odat, oslt⟩, gl, hcl, cap, hdl⟩ := isq
      simp only at hcl hdl
      subst hcl hdl
      have gl1 : (s.heap.push (emptySet led)).get? la = some { cls := .type "list", dict := odct, data := .seq vals cap, slots := oslt } := Heap.get?_push_of_some _ gl
      have ss1 := PySem.F.sub_list_set
      have ss2 := PySem.F.sub_list_frozenset
      have nd : (Value.type "list" == Value.type "dict") = false := by decide
      have isq1 : (s.heap.push (emptySet led)).IsList la vals := ⟨_, gl1, rfl, cap, rfl⟩
      unfold Builtin.«set.__init__» noKeywords Builtin.Frozenset.updateFrom
      generalize eIt : pyIter = theIter
      wp_walk
      subst eIt
      refine wpAny_pyIter_list isq1 ?_
      refine wpAny_bind (wpAny_runValue ?_)
      have ltl : la < s.heap.objs.size := Heap.lt_size gl
      have quiet3 : A.in1.in1.in1.handled = none := by simp [quiet]
      have psz : (s.heap.push (emptySet led)).objs.size = s.heap.objs.size + 1 := Heap.size_push ..
      have la_ne : la ≠ (s.heap.push (emptySet led)).objs.size := by rw [psz]; exact Nat.ne_of_lt (Nat.lt_succ_of_lt ltl)
      have S_out : s.heap.objs.size ∉ [(s.heap.push (emptySet led)).objs.size, la] := by
        rw [psz]; exact out2 (Nat.ne_of_lt (Nat.lt_succ_self _)) (Nat.ne_of_gt ltl)
      have at_ : ∀ (i : Nat) (v : Value), vals[i]? = some v → ∃ k t, ns[i]? = some k ∧ v = .int k t := fun i v hv => by
        have lt : i < ns.length := by rw [← lens]; exact (Array.getElem?_eq_some_iff.mp hv).1
        obtain ⟨t, e⟩ := PyProof.Rows.IntsAre.int_at num i v (by rw [Array.getElem?_toList]; exact hv)
        rw [List.getD_eq_getElem?_getD, List.getElem?_eq_getElem lt] at e
        exact ⟨ns[i], t, List.getElem?_eq_getElem lt, e⟩
      refine set_update_ints ((Walks.list quiet3 _ la la_ne vals).toS) s.heap.objs.size S_out ns lens few at_ (vals.size - 0) 0 _ (by omega) (Nat.zero_le _)
        ⟨⟨_, Heap.get?_push_size _ rfl, rfl, rfl⟩, isq1.push _⟩ ?begin ?finish
      case begin =>
        refine ⟨0, Nat.le_refl 0, setR_new_at ?_⟩
        rw [eled]
        exact Heap.get?_push_of_some _ gS
      case finish =>
        rintro ⟨h', g', d', tk', os'⟩ c mv hc hS'
        obtain rfl : g' = s.gens := mv.gens
        obtain rfl : d' = s.drawn := mv.drawn
        obtain rfl : os' = s.os := mv.os
        show wpAny _ _ _ _ _ _
        refine wpAny_pure ?_
        show wpAny _ _ (ret Value.none) _ _ _
        refine wpAny_pure ⟨rfl, h', tk', c, rfl, hS', by omega, fun b o e => ?_⟩
        have hb := Heap.lt_size e
        refine mv.heap b o (fun q => ?_) (Heap.get?_push_of_some _ (Heap.get?_push_of_some _ e))
        rw [psz] at q
        exact out2 (Nat.ne_of_lt hb) (Nat.ne_of_lt (Nat.lt_succ_of_lt hb)) q
    · cases r2 with
      | error e => exact hr2
      | ok fl2 =>
        cases fl2 with
        | ret r =>
          obtain ⟨rfl, h', tk, c, rfl, hS', hc, hk'⟩ := hr2
          repeat (any_goals (first | assumption | wp_step))
          exact post _ _ _ hS' hc hk'
        | _ => exact hr2.elim
  | _ => exact hr.elim

end DL
/-! DL22: the sorted set of a list of ints; min of two; dicts of ints; raise. -/
namespace DL
open PySem PySem.Spec PyProof.Rows L2
section
variable {X : Cx}
def rSetI (K : PySem.W.Frag) (w : World) : List V → Hp → VK → Prop := fun xs H Q => ∃ (l : Addr) (ns : List Int), xs = [.ref l] ∧ SqL K H l (ns.map V.int) ∧ ns.length + 1 < scanBound ∧
  ∀ p c, H p = none → c ≤ ns.length → Q (.ref p) (upd H p (SetO w p (fun j => decide (j ∈ ns)) c))
theorem cr_setI (hc : X.calm = true) : CallR X (.type "set") (rSetI X.K X.w) := by
  intro pins s σ H vs us Q I r h
  obtain ⟨l, ns, rfl, hq, few, q⟩ := h
  rw [Vals.ref1 r]
  obtain ⟨its, rv, pl, hz⟩ := I.list hq
  refine set_of_ints (I.ok.hd hc) pl.isList (by simpa using ints_of_vals rv) few fun h' tk c hS hc' hk => ?_
  have hn : H s.heap.objs.size = none := I.hok.fresh (Nat.le_refl _)
  exact ⟨.ref _, _, I.laid (t' := tk) hk (Nat.le_refl _) (setO_new hS), rfl, q _ c hn hc'⟩
end

/-! ### over data -/
def dedI : List Int → List Int
  | [] => []
  | x :: r => if x ∈ r then dedI r else x :: dedI r
theorem mem_dedI {x : Int} : ∀ {xs : List Int}, x ∈ dedI xs ↔ x ∈ xs
  | [] => Iff.rfl
  | y :: r => by
    unfold dedI
    have ih := mem_dedI (x := x) (xs := r)
    split
    · rename_i h
      rw [ih, List.mem_cons]
      constructor
      · exact .inr
      · rintro (rfl | h2)
        · exact h
        · exact h2
    · rw [List.mem_cons, List.mem_cons, ih]
theorem dedI_nodup : ∀ xs : List Int, (dedI xs).Nodup
  | [] => List.nodup_nil
  | y :: r => by
    unfold dedI
    split
    · exact dedI_nodup r
    · rename_i h
      exact List.nodup_cons.mpr ⟨fun q => h (mem_dedI.mp q), dedI_nodup r⟩
def setI (xs : List Int) : List Int := sortI (dedI xs)
def oSetSorted : D → Option (List D)
  | .lst xs => (ints? xs).bind fun ns => if ns.length < 64 then some ((setI ns).map .int) else none
  | _ => none
theorem nodup_perm {α : Type} [DecidableEq α] : ∀ {xs ys : List α}, xs.Nodup → ys.Nodup → (∀ x, x ∈ xs ↔ x ∈ ys) → xs.Perm ys
  | [], ys, _, _, h => by
    cases ys with
    | nil => exact .nil
    | cons y r => exact absurd ((h y).mpr List.mem_cons_self) (by simp)
  | x :: r, ys, h1, h2, h => by
    have hx : x ∈ ys := (h x).mp List.mem_cons_self
    have n1 := List.nodup_cons.mp h1
    refine List.Perm.trans (List.Perm.cons x (nodup_perm n1.2 (h2.erase x) fun z => ?_)) (List.perm_cons_erase hx).symm
    rw [List.Nodup.mem_erase_iff h2]
    constructor
    · intro hz
      exact ⟨fun e => n1.1 (by rw [← e]; exact hz), (h z).mp (List.mem_cons_of_mem _ hz)⟩
    · rintro ⟨ne, hz⟩
      rcases List.mem_cons.mp ((h z).mpr hz) with e | e
      · exact absurd e ne
      · exact e
theorem setI_uniq {xs out : List Int} (s : out.Pairwise (· < ·)) (m : ∀ k, k ∈ out ↔ k ∈ xs) : out = setI xs := by
  refine sorted_uniq (List.Perm.trans (nodup_perm (s.imp fun h => Int.ne_of_lt h) (dedI_nodup xs) fun z => by rw [m, mem_dedI]) (sortI_perm _).symm) (s.imp fun h => Int.le_of_lt h) (sortI_sorted _)
def oMin2 : D → D → Option D
  | .int i, .int j => some (.int (if j < i then j else i))
  | _, _ => none
section
variable {X : Cx} {W : Wish} {a b : Expr} {fa fb : Env → R D} {pos p p2 q : Pos}
theorem df_sortSet (hc : X.calm = true) (hg : Gl X "sorted") (hg2 : Gl X "set") (hm : X.mg "sorted" = none) (hm2 : X.mg "set" = none) (ha : DB X W a fa)
    (n1 : starEach [.Call (.Name "set" p2) [a] [] q] X.env = (false, eval (.Call (.Name "set" p2) [a] [] q) X.env) :: starEach [] X.env := by rfl) (hpl : (backTo pos (starEach [] X.env)).any (·.1) = false := by rfl)
    (n2 : starEach [a] X.env = (false, eval a X.env) :: starEach [] X.env := by rfl) (hpl2 : (backTo q (starEach [] X.env)).any (·.1) = false := by rfl) :
    DF X W (.Call (.Name "sorted" p) [.Call (.Name "set" p2) [a] [] q] [] pos) (fun ρ => (fa ρ).bind fun y => R.of (oSetSorted y)) :=
  (pe_callB (cr_sortedSet hc) hg hm (by decide +kernel) (pa_cons (pe_callTy (p := p2) (cr_setI hc) hg2 hm2 (by decide +kernel) (pa_cons ha pa_nil n2) (by decide) (by decide) n2 hpl2) pa_nil n1) (by decide) (by decide) n1 hpl).weak
    fun σ H Q ⟨F0, H0, ρ, F, z, h⟩ => post_bind z rF_early h fun F1 H1 v y z1 g1 r1 h => by
    obtain ⟨d, e, hF⟩ := post_of h
    unfold oSetSorted at e
    split at e
    · obtain ⟨ns, e1, e2⟩ := Option.bind_eq_some_iff.mp e
      split at e2
      · rename_i few
        cases e2
        obtain ⟨l, vs, rfl, f, q⟩ := r1.lst' z1.sub
        have ev := q.ints e1
        subst ev
        refine ⟨l, ns, rfl, SqL.of f, by unfold scanBound; omega, fun p c hp hc => ⟨p, _, c, rfl, upd_same, by omega, fun out r srt mem _ hr => ?_⟩⟩
        have eo : out = setI ns := setI_uniq srt fun k => by rw [mem]; exact decide_eq_true_iff
        subst eo
        have nr : r ≠ p := fun e => by subst e; rw [upd_same] at hr; cases hr
        have g1 := Grow.own (o := SetO X.w p (fun j => decide (j ∈ ns)) c) z1.sub hp
        exact hF (.ref r) F1 _ (g1.trans (Grow.own g1.fh hr)) ⟨r, _, rfl, by rw [upd_ne nr] at hr; exact hr, z1.sub.out (by rw [upd_ne nr] at hr; exact hr), upd_same, RepL.ofInts _⟩
      · cases e2
    · cases e
theorem dv_min2 (hc : X.calm = true) (hg : Gl X "min") (hm : X.mg "min" = none) (ha : DB X W a fa) (hb : DB X W b fb) (h1 : starEach (a :: [b]) X.env = (false, eval a X.env) :: starEach [b] X.env := by rfl) (h2 : starEach (b :: []) X.env = (false, eval b X.env) :: starEach [] X.env := by rfl) (hpl : (backTo pos (starEach [b] X.env)).any (·.1) = false := by rfl) :
    DV X W (.Call (.Name "min" p) [a, b] [] pos) (fun ρ => (fa ρ).bind fun x => (fb ρ).bind fun y => R.of (oMin2 x y)) :=
  (pe_callB (call_min2 hc) hg hm (by decide +kernel) (pa_cons ha (pa_cons hb pa_nil h2) h1) (by decide) (by decide) h1 hpl).weak
    fun σ H Q ⟨F0, H0, ρ, F, z, h⟩ => post_bind z rV_early h fun F1 H1 v x z1 g1 r1 h => post_bind z1 rV_early h fun F2 H2 u y z2 g2 r2 h => by
    obtain ⟨d, e, hF⟩ := post_of h
    unfold oMin2 at e
    split at e
    · cases e
      have e1 := (r1.up g2).int
      have e2 := r2.int
      subst e1 e2
      exact ⟨_, _, rfl, hF _ _ _ (Grow.refl z2.sub) (.int _)⟩
    · cases e
end

/-! ### dicts whose keys are ints and texts -/
section
variable {K : KF} {F : Hp} {v : V} {d : D}
theorem RepM.any {k : Key} {es : List (Key × V)} {kvs : List (Key × D)} (h : RepM K F es kvs) : (es.any fun kv => decide (kv.1 = k)) = (kvs.any fun kv => decide (kv.1 = k)) := by
  induction kvs generalizing es with
  | nil => cases h; rfl
  | cons a r ih => cases h with | cons x t => rw [List.any_cons, List.any_cons, ih t]
theorem RepM.mapSet {k : Key} (rv : Rep K F v d) {es : List (Key × V)} {kvs : List (Key × D)} (h : RepM K F es kvs) : RepM K F (es.map fun kv => if kv.1 = k then (kv.1, v) else kv) (kvs.map fun kv => if kv.1 = k then (kv.1, d) else kv) := by
  induction kvs generalizing es with
  | nil => cases h; exact .nil
  | cons a r ih =>
    cases h with
    | @cons g _ _ _ _ x t =>
      rw [List.map_cons, List.map_cons]
      by_cases e : g = k
      · simp only [e, if_pos]; exact .cons rv (ih t)
      · simp only [e, if_neg, not_false_eq_true]; exact .cons x (ih t)
theorem RepM.app {es es2 : List (Key × V)} {kvs kvs2 : List (Key × D)} (h : RepM K F es kvs) (h2 : RepM K F es2 kvs2) : RepM K F (es ++ es2) (kvs ++ kvs2) := by
  induction kvs generalizing es with
  | nil => cases h; exact h2
  | cons a r ih => cases h with | cons x t => exact .cons x (ih t)
theorem RepM.put {k : Key} (rv : Rep K F v d) {es : List (Key × V)} {kvs : List (Key × D)} (r : RepM K F es kvs) : RepM K F (putK es k v) (putE kvs k d) := by
  unfold putK putE
  rw [r.any]
  split
  · exact r.mapSet rv
  · exact r.app (.cons rv .nil)
theorem RepM.len {es : List (Key × V)} {kvs : List (Key × D)} (h : RepM K F es kvs) : es.length = kvs.length := by
  induction kvs generalizing es with
  | nil => cases h; rfl
  | cons a r ih => cases h with | cons x t => rw [List.length_cons, List.length_cons, ih t]
def lookM (kvs : List (Key × D)) (k : Key) : Option D := (kvs.find? fun kv => decide (kv.1 = k)).map (·.2)
theorem RepM.look {k : Key} {es : List (Key × V)} {kvs : List (Key × D)} (h : RepM K F es kvs) : (∀ d, lookM kvs k = some d → ∃ v, valV es k = some v ∧ Rep K F v d) ∧ (lookM kvs k = none → valV es k = none) := by
  induction kvs generalizing es with
  | nil => cases h; exact ⟨fun d e => by simp [lookM] at e, fun _ => rfl⟩
  | cons a r ih =>
    cases h with
    | @cons g w _ x _ rx t =>
      obtain ⟨h1, h2⟩ := ih t
      have q1 : ∀ {α : Type} {p : Key × α} {r : List (Key × α)}, ((p :: r).find? fun kv => decide (kv.1 = k)) = if p.1 = k then some p else r.find? fun kv => decide (kv.1 = k) := fun {α p r} => by
        rw [List.find?_cons]
        by_cases e : p.1 = k <;> simp [e]
      unfold lookM valV at *
      rw [q1, q1]
      by_cases e : g = k
      · rw [if_pos e, if_pos e]
        exact ⟨fun d hd => by cases hd; exact ⟨w, rfl, rx⟩, fun q => by cases q⟩
      · rw [if_neg e, if_neg e]
        exact ⟨h1, h2⟩
end
def keyP : D → Option Key
  | .int i => some (.inl i)
  | .str x => some (.inr x)
  | _ => none
theorem keyP_v {K : KF} {F : Hp} {v : V} {d : D} {k : Key} (r : Rep K F v d) (e : keyP d = some k) : v = kV k := by
  unfold keyP at e
  split at e
  · cases e; cases r; rfl
  · cases e; cases r; rfl
  · cases e
/-- x[i]: x a list, a tuple, a text, or a dict whose keys are ints and texts -/
def oIxG : D → D → Option D
  | .dck kvs, y => (keyP y).bind (lookM kvs)
  | x, y => oIx x y
abbrev eIxG (a b : Env → R D) : Env → R D := fun ρ => (a ρ).bind fun x => (b ρ).bind fun y => R.of (oIxG x y)
section
variable {X : Cx} {W W1 W2 : Wish} {a b : Expr} {fa fb : Env → R D} {pos p p2 q : Pos}
theorem oIxG_not {x y : D} (h : ∀ kvs, x ≠ .dck kvs) : oIxG x y = oIx x y := by
  cases x <;> first | rfl | exact absurd rfl (h _)
theorem dv_ixG (hu : X.A.units + 1 < cLine) (ha : DB X W a fa) (hb : DV X W b fb) (hs : PlainIx b := by exact fun _ _ => rfl) (hs2 : NoSl b := by exact fun _ _ => rfl) : DV X W (.Subscript a b pos) (eIxG fa fb) := by
  refine ⟨fun pins s σ H Q I h => ?_⟩
  obtain ⟨F0, H0, ρ, F, z, h⟩ := h
  have h : Post W (rV X.K) F H σ ((fa ρ).bind fun x => (fb ρ).bind fun y => R.of (oIxG x y)) Q := h
  cases e : fa ρ with
  | stuck => rw [e] at h; exact h.elim
  | err c =>
    refine (dv_ix ha (dv_b hb) hs).run pins s σ H Q I ⟨F0, H0, ρ, F, z, ?_⟩
    rw [e] at h
    show Post W (rV X.K) F H σ ((fa ρ).bind _) Q
    rw [e]
    exact h
  | ok x =>
    by_cases hx : ∃ kvs, x = .dck kvs
    · obtain ⟨kvs, rfl⟩ := hx
      refine (pe_dget hu ha hb hs2).run pins s σ H Q I ⟨F0, H0, ρ, F, z, ?_⟩
      rw [e] at h
      show Post W (rB X.K) F H σ (fa ρ) _
      rw [e]
      intro v F1 H1 g1 r1
      have h : Post W (rV X.K) F1 H1 σ ((fb ρ).bind fun y => R.of (oIxG (.dck kvs) y)) Q := Post.later rV_early g1 h
      refine post_bind (z.up g1) rV_early h fun F2 H2 u y z2 g2 r2 h => ?_
      obtain ⟨d, e2, hF⟩ := post_of h
      obtain ⟨k, e3, e4⟩ := Option.bind_eq_some_iff.mp e2
      have ek := keyP_v r2 e3
      subst ek
      cases RepB.up r1 g2 with
      | rep r =>
        cases r with
        | dck f q =>
          obtain ⟨w, e5, rw'⟩ := q.look.1 d e4
          exact ⟨_, w, rfl, by rw [← e5]; exact DGet.k (z2.sub _ _ f), hF _ _ _ (Grow.refl z2.sub) rw'⟩
    · refine (dv_ix ha (dv_b hb) hs).run pins s σ H Q I ⟨F0, H0, ρ, F, z, ?_⟩
      rw [e] at h
      show Post W (rV X.K) F H σ ((fa ρ).bind _) Q
      rw [e]
      have h : Post W (rV X.K) F H σ ((fb ρ).bind fun y => R.of (oIxG x y)) Q := h
      simp only [oIxG_not fun kvs ek => hx ⟨kvs, ek⟩] at h
      exact h
end

/-! ### {k: v for .. in ..} -/
def dcAll (item : D → Option (Option (Key × D))) : List D → List (Key × D) → Option (List (Key × D))
  | [], acc => some acc
  | d :: ds, acc => (item d).bind fun o => dcAll item ds (match o with | some (k, v) => putE acc k v | none => acc)
def dcItem (vs : List Nat) (gt : D → Env → Option Env) (tt : Env → R Bool) (fk fv : Env → R D) (ρ : Env) (d : D) : Option (Option (Key × D)) :=
  (gt d (wipeE ρ vs)).bind fun ρ1 => (calm (tt ρ1)).bind fun k => if k = true then (calm (fk ρ1)).bind fun x => (keyP x).bind fun x => (calm (fv ρ1)).map fun y => some (x, y) else some none
def dcF (vs : List Nat) (gt : D → Env → Option Env) (tt : Env → R Bool) (fk fv : Env → R D) (ρ : Env) (items : List D) : Option D :=
  if few items then (dcAll (dcItem vs gt tt fk fv ρ) items []).map .dck else none
abbrev eDc (vs : List Nat) (gt : D → Env → Option Env) (tt : Env → R Bool) (fk fv : Env → R D) (fi : Env → R (List D)) : Env → R D := fun ρ => (fi ρ).bind fun items => R.of (dcF vs gt tt fk fv ρ items)
theorem putE_len (kvs : List (Key × D)) (k : Key) (v : D) : (putE kvs k v).length ≤ kvs.length + 1 := by
  unfold putE
  split
  · rw [List.length_map]; omega
  · rw [List.length_append]; exact Nat.le_refl _
section
variable {X : Cx} {W W1 W2 W3 : Wish} {kx vx tg iter : Expr} {ifs : List Expr} {scope : Scope} {own : List (Str × Nat)} {pos : Pos} {fi : Env → R (List D)} {is : List Nat} {gt : D → Env → Option Env} {tt : Env → R Bool} {fk fv : Env → R D}
theorem dc_it {J : It} {n : Nat} {G : Hp → Prop} {Y : Nat → Hp → V → Hp → Prop} (wk : Walk J n G Y) {g : TG} {t : TT} {tk tv : TE} {vs : List Nat} {σ : L2.St} {H1 : Hp} {Dd : Addr} {Qd : Hp → Prop} (Pv : Nat → Hp → Prop) (first : Pv 0 (upd H1 Dd (.dK []))) (stays : ∀ i H, i ≤ n → Pv i H → G H)
    (turn : ∀ i x H H', i < n → Pv i H → Y i H x H' → g x (L2.wipe σ vs) H' fun σ2 H2 => L2.wipe σ2 vs = L2.wipe σ vs ∧ t σ2 H2 fun b H3 =>
      if b = true then tk σ2 H3 fun y H4 => tv σ2 H4 fun u H5 => ∃ es k, y = kV k ∧ H5 Dd = some (.dK es) ∧ es.length < sizeLine ∧ Pv (i + 1) (upd H5 Dd (.dK (putK es k u))) else Pv (i + 1) H3) (last : ∀ H, Pv n H → Qd H) :
    ∃ Z : Nat → Nat → Hp → Prop, (∃ m, Z 0 m (upd H1 Dd (.dK []))) ∧ ∀ i m H, Z i m H →
      (J.stop i H ∧ Qd H) ∨ (J.go i H ∧ ∃ N : Hp → Prop, (∀ H', N H' → ∃ m', m' < m ∧ Z (i + 1) m' H') ∧ ∀ x H', J.yld i H x H' → g x (L2.wipe σ vs) H' fun σ2 H2 => L2.wipe σ2 vs = L2.wipe σ vs ∧ t σ2 H2 fun b H3 =>
        if b = true then tk σ2 H3 fun y H4 => tv σ2 H4 fun u H5 => ∃ es k, y = kV k ∧ H5 Dd = some (.dK es) ∧ es.length < sizeLine ∧ N (upd H5 Dd (.dK (putK es k u))) else N H3) := by
  refine ⟨fun i m H => m + i = n ∧ Pv i H, ⟨n, rfl, first⟩, ?_⟩
  intro i m H ⟨em, p⟩
  have sg := stays i H (by omega) p
  rcases Nat.lt_or_ge i n with lt | ge
  · exact .inr ⟨wk.goes i H lt sg, Pv (i + 1), fun H' p' => ⟨m - 1, by omega, by omega, p'⟩, fun x H' y => turn i x H H' lt p (wk.yields i H x H' lt sg y)⟩
  · have ei : i = n := by omega
    subst ei
    exact .inl ⟨wk.stops H sg, last H p⟩
theorem dc_reads {vs : List Nat} (h0 : ∀ i ∈ is, i ∈ vs) {σ : L2.St} {H : Hp} {Q : VK} (h : tG X.K W (rV X.K) (eDc vs gt tt fk fv fi) σ H Q) :
    tDc (tG X.K W (rI X.K) fi) (tT X.K is gt) (tG X.K W1 rT tt) (tG X.K W2 (rV X.K) fk) (tG X.K W3 (rV X.K) fv) vs σ H Q := by
  obtain ⟨F0, H0, ρ, F, z, h⟩ := h
  refine post_bind z rV_early h fun F1 H1 J items z1 g1 it h => ?_
  obtain ⟨yd, e, hF⟩ := post_of h
  unfold dcF at e
  by_cases hfew : few items
  case neg => rw [if_neg hfew] at e; cases e
  rw [if_pos hfew] at e
  obtain ⟨ys, e', ey⟩ := Option.map_eq_some_iff.mp e
  subst ey
  obtain ⟨G, Y, wk, hG, hY⟩ := it
  intro Dd hD
  have hF1D : F1 Dd = none := z1.sub.out hD
  have h0D : H0 Dd = none := z1.grow.hh.free hD
  have zw := z1.wipe vs
  have apart := apart_new zw hD
  refine dc_it wk (fun i H => ∃ F acc dn, SL X.K F0 H0 (wipeE ρ vs) (L2.wipe σ vs) F H ∧ Grow F1 H1 F H ∧ F Dd = none ∧ H Dd = some (.dK acc) ∧ RepM X.K F acc dn ∧ acc.length ≤ i ∧
    dcAll (dcItem vs gt tt fk fv ρ) (items.drop i) dn = some ys) ?_ ?_ ?_ ?_
  · exact ⟨F1, [], [], zw.poke hF1D h0D apart, Grow.own z1.sub hD, hF1D, upd_same, .nil, Nat.le_refl _, e'⟩
  · rintro i H hi ⟨F, _, _, zz, g, _⟩
    exact hG F H g.ff zz.sub
  · rintro i x H H' hi ⟨F, acc, dn, zz, g, fD, hD2, ra, la, ea⟩ y
    obtain ⟨d, F', ed, g2, r⟩ := hY i F H x H' g.ff zz.sub hi y
    have edr : items.drop i = d :: items.drop (i + 1) := by
      rw [List.drop_eq_getElem_cons hi]
      rw [List.getElem?_eq_getElem hi] at ed
      cases ed; rfl
    rw [edr] at ea
    unfold dcAll at ea
    obtain ⟨o, e1, e2⟩ := Option.bind_eq_some_iff.mp ea
    unfold dcItem at e1
    obtain ⟨ρ1, e4, e5⟩ := Option.bind_eq_some_iff.mp e1
    obtain ⟨k, e6, e7⟩ := Option.bind_eq_some_iff.mp e5
    have e6 := calm_some e6
    have hHD : ∀ {F' H' : Hp}, Grow F H F' H' → F' Dd = none ∧ H' Dd = some (.dK acc) := fun gg => ⟨gg.nn Dd (by rw [hD2]; simp) fD, gg.hh _ _ hD2⟩
    refine ⟨F0, H0, wipeE ρ vs, F', d, ρ1, zz.up g2, r, e4, fun σ2 F2 H2 g3 z2 el => ⟨el.wipe h0, F0, H0, ρ1, F2, z2, ?_⟩⟩
    rw [e6]
    intro b F3 H3 g4 hb
    cases hb
    have g24 := (g2.trans g3).trans g4
    cases k with
    | true =>
      rw [if_pos rfl] at e7 ⊢
      obtain ⟨kd, e8, e9⟩ := Option.bind_eq_some_iff.mp e7
      obtain ⟨kk, e10, e11⟩ := Option.bind_eq_some_iff.mp e9
      obtain ⟨yv, e12, e13⟩ := Option.map_eq_some_iff.mp e11
      subst e13
      have e8 := calm_some e8
      have e12 := calm_some e12
      refine ⟨F0, H0, ρ1, F3, z2.up g4, ?_⟩
      rw [e8]
      intro vk F4 H4 g5 rk
      refine ⟨F0, H0, ρ1, F4, (z2.up g4).up g5, ?_⟩
      rw [e12]
      intro v F5 H5 g6 rv
      have gg := (g24.trans g5).trans g6
      obtain ⟨f4, h4⟩ := hHD gg
      have ek := keyP_v rk e10
      have rp := (ra.mono gg.ff).put (k := kk) rv
      refine ⟨acc, kk, ek, h4, ?_, F5, _, putE dn kk yv, (zz.up gg).poke f4 h0D apart, (g.trans gg).poke f4 hD, f4, upd_same, rp, ?_, e2⟩
      · rw [sizeLine_eq]
        have : items.length ≤ 16777216 := hfew
        omega
      · have h1 := rp.len
        have h2 := putE_len dn kk yv
        have h3 := ra.len
        omega
    | false =>
      rw [if_neg Bool.false_ne_true] at e7 ⊢
      cases e7
      obtain ⟨f3, h3⟩ := hHD g24
      exact ⟨F3, acc, dn, zz.up g24, g.trans g24, f3, h3, ra.mono g24.ff, by omega, e2⟩
  · rintro H ⟨F, acc, dn, zz, g, fD, hD2, ra, la, ea⟩
    rw [List.drop_length] at ea
    cases ea
    have up : Same F (upd F Dd (.dK acc)) := Same.add fD
    refine hF _ (upd F Dd (.dK acc)) H ⟨g.hh, g.ff.trans up, fun b o e => ?_, fun b hb e => ?_⟩ (.dck upd_same (ra.mono up))
    · by_cases hb : b = Dd
      · subst hb; rw [upd_same] at e; cases e; exact hD2
      · rw [upd_ne hb] at e; exact g.fh b o e
    · rw [upd_ne (fun q => hb (by rw [q]; exact hD))]; exact g.nn b hb e
/-- {k: v for tg in iter if ..}, a new dict that nothing will change -/
theorem dv_dc (hc : X.calm = true) (hN : X.N.Nodup) (hi : DI X W tg iter fi) (ok : BlkOk X.N X.env.scope scope own)
    (hg : ∀ (s : Shared) (H : Hp) (C : Addr) (cl : List (Str × Addr)) (fp : List Addr), DG (X.blk s H scope (compEnvC scope cl C X.env) fp) tg is gt)
    (ht : ∀ (s : Shared) (H : Hp) (C : Addr) (cl : List (Str × Addr)) (fp : List Addr), DTs (X.blk s H scope (compEnvC scope cl C X.env) fp) W1 ifs tt)
    (hk : ∀ (s : Shared) (H : Hp) (C : Addr) (cl : List (Str × Addr)) (fp : List Addr), DV (X.blk s H scope (compEnvC scope cl C X.env) fp) W2 kx fk)
    (hv : ∀ (s : Shared) (H : Hp) (C : Addr) (cl : List (Str × Addr)) (fp : List Addr), DV (X.blk s H scope (compEnvC scope cl C X.env) fp) W3 vx fv)
    (h0 : ∀ i ∈ is, i ∈ own.map (·.2)) (hs : ∀ x, foldedSetIterable iter X.env x = pure x := by intro _; rfl) :
    DV X W (.DictComp kx vx [⟨tg, iter, ifs, 0⟩] scope pos) (eDc (own.map (·.2)) gt tt fk fv fi) :=
  (pe_dc hc hN hi ok hg ht hk hv hs).weak fun σ H Q h => dc_reads h0 h
end

/-! ### raise -/
/-- an error class of the text -/
def RaiseOk (K : PySem.W.Frag) (mg : Str → Option Value) (n : Str) : Prop := ∃ C, mg n = some (.ref C) ∧ PySem.W.excIn K C He.veBase "ValueError.__new__" = true ∧ PySem.W.keepIn K (.ref C) = true ∧ PySem.W.subIn K (.ref C) (.type "BaseException") = some true ∧ PySem.W.typeIn K (.ref C) = some (.type "type")
abbrev sRaise (n : Str) (f : Env → R D) : Env → Option Out := fun ρ => withR (f ρ) ρ fun _ => some (.ex n ρ)
section
variable {X : Cx} {W' : WX} {e : Expr} {f : Env → R D} {n : Str} {p pos pos' : Pos}
theorem ds_raise (hc : X.calm = true) (tk : Takes X W') (O : RaiseOk X.K X.mg n) (hg : Gl X n) (he : DV X (wish X.mg W') e f)
    (hs : starEach [e] X.env = (false, eval e X.env) :: starEach [] X.env := by rfl) (hdb : (n == ("__debug__" : Str)) = false := by decide) :
    DS X (wish X.mg W') (.Raise (some (.Call (.Name n p) [e] [] pos)) none pos') (sRaise n f) := by
  obtain ⟨C, h1, h2, h3, h4, h5⟩ := O
  refine (ps_raise hc tk (SkE.pmk_own1 PySem.F.excBase_ValueError h2 h1 h3 (raises_own h4 h5) hg he hs hdb)).weak fun D σ H ⟨F0, H0, ρ, F, o, z, e, ho⟩ => ?_
  exact tS_expr z e ho fun v d F1 H1 z1 g1 r e => by
    cases e
    exact ho σ F1 H1 z1 C h1
end
end DL
namespace K22
open PySem PySem.Spec PyProof.Rows L2 DL
def b_common_prefix_1 : DL.Env → Option Out := (sSeq (sIf (bCmp cNe (getB 3) (getB 4)) (sRet (getD 2)) sNx) (sAug 2 (eC (.int 1))))
def m_common_prefix : List D → R Ret := runD 5 2 ((sSeq (sSet 2 (eC (.int 0))) (sSeq (sFor (iZip2 (getD 0) (getD 1)) (gT 2 (gsCons (setD 3) (gsCons (setD 4) gsNil))) b_common_prefix_1) (sRet (getD 2)))))
def e_splice_1 : DL.Env → R D := (eUn oTuple (getB 6))
def e_splice_2 : DL.Env → R D := (eUn oTuple (getB 6))
def m_splice : List D → R Ret := runD 7 2 ((sSeq (sSetFz 2 (lLc [6] (setD 6) bYes e_splice_1 (iSeq (getD 0)))) (sSeq (sSetFz 3 (lLc [6] (setD 6) bYes e_splice_2 (iSeq (getD 1)))) (sSeq (sSet 4 (eCall m_common_prefix (aCons (getD 2) (aCons (getD 3) aNil)))) (sSeq (sSet 2 (eFz (lSl (getB 2) (pSome (getB 4)) pNone))) (sSeq (sSet 3 (eFz (lSl (getB 3) (pSome (getB 4)) pNone))) (sSeq (sSet 5 (eCall m_common_prefix (aCons (eFz (lUn oRev (getB 2))) (aCons (eFz (lUn oRev (getB 3))) aNil)))) (sRet (eTup (aCons (getD 4) (aCons (eOp oSub (eUn oLen (getB 2)) (getB 5)) (aCons (eFz (lSl (getB 3) pNone (pSome (eOp oSub (eUn oLen (getB 3)) (getB 5))))) aNil))))))))))))
def e_spliced_1 : DL.Env → R D := (eUn oTuple (getB 6))
def e_spliced_2 : DL.Env → R D := (eUn oTuple (getB 6))
def m_spliced : List D → R Ret := runD 7 2 ((sSeq (sAsg (getD 1) (gT 3 (gsCons (setD 2) (gsCons (setD 3) (gsCons (setD 4) gsNil))))) (sSeq (sSetFz 5 (lLc [6] (setD 6) bYes e_spliced_1 (iSeq (getD 0)))) (sRetF (lOp oCat (eFz (lOp oCat (eFz (lSl (getB 5) pNone (pSome (getB 2)))) (eFz (lLc [6] (setD 6) bYes e_spliced_2 (iSeq (getD 4)))))) (eFz (lSl (getB 5) (pSome (eOp oAdd (getB 2) (getB 3))) pNone)))))))
def m__law_cell : List D → R Ret := runD 2 2 ((sSeq (sIf (bCmp cLt (getB 1) (eUn oLen (getB 0))) (sRet (eOp oIx (getB 0) (getB 1))) sNx) (sRet (eC (.int 0)))))
def b__law_row_1 : DL.Env → Option Out := (sIf (bCmp cGe (getB 0) (eOp oPow (eC (.int 10)) (eC (.int 18)))) (sSeq (sApp 2 (eOp oMod (eUn oInt (getB 3)) (eC (.int 840)))) (sSet 3 (eOp oDiv (getB 3) (eC (.int 840))))) (sSeq (sSet 4 (eOp oMod (eUn oInt (eOp oAdd (eOp oMul (getB 4) (eC (.int 48271))) (getB 5))) (eC (.int 2147483647)))) (sApp 2 (eOp oMod (eOp oDiv (eOp oMod (eUn oInt (eOp oMul (getB 4) (eC (.int 69621)))) (eC (.int 2147483629))) (eC (.int 7))) (eC (.int 840))))))
def m__law_row : List D → R Ret := runD 6 2 ((sSeq (sSetF 2 (lLst aNil)) (sSeq (sSet 3 (getD 0)) (sSeq (sSet 4 (eOp oAdd (eOp oMod (eUn oInt (getB 0)) (eC (.int 2147483629))) (eC (.int 1)))) (sSeq (sFor (iR1 (getB 1)) (setD 5) b__law_row_1) (sRetOwn 2))))))
def e__law_lists_1 : DL.Env → R D := (eTup (aCons (eOp oIx (eFz (lLst (aCons (eC (.str "low")) (aCons (eC (.str "high")) aNil)))) (eOp oMod (getB 1) (eC (.int 2)))) (aCons (eOp oMod (eOp oDiv (getB 1) (eC (.int 2))) (eC (.int 4))) aNil)))
def b__law_lists_1 : DL.Env → Option Out := (sSeq (sSet 4 (eOp oMod (eOp oDiv (getB 1) (eC (.int 5))) (eOp oAdd (eUn oLen (getB 3)) (eC (.int 1))))) (sIf (bCmp cEq (eOp oMod (getB 1) (eC (.int 5))) (eC (.int 0))) (sSet 3 (eFz (lOp oCat (eFz (lOp oCat (eFz (lSl (getB 3) pNone (pSome (getB 4)))) (eFz (lLst (aCons (eTup (aCons (eC (.str "low")) (aCons (eOp oMod (eOp oDiv (getB 1) (eC (.int 7))) (eC (.int 4))) aNil))) aNil))))) (eFz (lSl (getB 3) (pSome (getB 4)) pNone))))) (sIf (bCmp cEq (eOp oMod (getB 1) (eC (.int 5))) (eC (.int 1))) (sSet 3 (eFz (lOp oCat (eFz (lSl (getB 3) pNone (pSome (getB 4)))) (eFz (lSl (getB 3) (pSome (eOp oAdd (eOp oAdd (getB 4) (eC (.int 1))) (eOp oMod (eOp oDiv (getB 1) (eC (.int 11))) (eC (.int 3))))) pNone))))) (sIf (bCmp cEq (eOp oMod (getB 1) (eC (.int 5))) (eC (.int 2))) (sSet 3 (eFz (lOp oCat (eFz (lOp oCat (eFz (lSl (getB 3) pNone (pSome (getB 4)))) (eFz (lUn oRev (eFz (lSl (getB 3) (pSome (getB 4)) (pSome (eOp oAdd (getB 4) (eC (.int 4)))))))))) (eFz (lSl (getB 3) (pSome (eOp oAdd (getB 4) (eC (.int 4)))) pNone))))) (sIf (bCmp cEq (eOp oMod (getB 1) (eC (.int 5))) (eC (.int 3))) (sSet 3 (eFz (lOp oCat (eFz (lOp oCat (eFz (lSl (getB 3) pNone (pSome (getB 4)))) (eFz (lSl (getB 3) (pSome (getB 4)) (pSome (eOp oAdd (getB 4) (eC (.int 3)))))))) (eFz (lSl (getB 3) (pSome (getB 4)) pNone))))) (sSet 3 (eFz (lOp oCat (eFz (lSl (getB 3) (pSome (getB 4)) pNone)) (eFz (lSl (getB 3) pNone (pSome (getB 4))))))))))))
def m__law_lists : List D → R Ret := runD 5 1 ((sSeq (sSetFz 2 (lLc [1] (setD 1) bYes e__law_lists_1 (iSeq (eFz (lCall m__law_row (aCons (eCall m__law_cell (aCons (getD 0) (aCons (eC (.int 0)) aNil))) (aCons (eOp oMod (eCall m__law_cell (aCons (getD 0) (aCons (eC (.int 1)) aNil))) (eC (.int 41))) aNil))))))) (sSeq (sSet 3 (eFz (lUn oList (getB 2)))) (sSeq (sFor (iSeq (eFz (lOp oCat (eFz (lCall m__law_row (aCons (eCall m__law_cell (aCons (getD 0) (aCons (eC (.int 2)) aNil))) (aCons (eOp oMod (eCall m__law_cell (aCons (getD 0) (aCons (eC (.int 3)) aNil))) (eC (.int 5))) aNil)))) (eSlR (getB 0) (pSome (eC (.int 4))) (pSome (eC (.int 9))))))) (setD 1) b__law_lists_1) (sRetF (lLst (aCons (getD 2) (aCons (getD 3) aNil))))))))
def b__law_common_1 : DL.Env → Option Out := (sIf (bAnd (bCmp cEq (getB 2) (getB 3)) (bCmp cEq (eOp oIx (getB 0) (getB 3)) (eOp oIx (getB 1) (getB 3)))) (sSet 2 (eOp oAdd (getB 3) (eC (.int 1)))) sNx)
def m__law_common : List D → R Ret := runD 4 2 ((sSeq (sSet 2 (eC (.int 0))) (sSeq (sFor (iR1 (eOp oMin2 (eUn oLen (getB 0)) (eUn oLen (getB 1)))) (setD 3) b__law_common_1) (sRet (getD 2)))))
def e_law_1 : DL.Env → R D := (eFz (lUn oList (getB 9)))
def e_law_2 : DL.Env → R D := (eFz (lUn oList (getB 9)))
def b_law_1 : DL.Env → Option Out := (sSeq (sSet 4 (eCall m__law_common (aCons (getD 2) (aCons (getD 3) aNil)))) (sSeq (sSet 5 (eCall m__law_common (aCons (eFz (lUn oRev (eFz (lSl (getB 2) (pSome (getB 4)) pNone)))) (aCons (eFz (lUn oRev (eFz (lSl (getB 3) (pSome (getB 4)) pNone)))) aNil)))) (sSeq (sSet 6 (eFz (lLst (aCons (eFz (lUn oList (getB 2))) (aCons (eFz (lUn oList (getB 3))) aNil))))) (sSeq (sSet 7 (eCall m_splice (aCons (eOp oIx (getB 6) (eC (.int 0))) (aCons (eOp oIx (getB 6) (eC (.int 1))) aNil)))) (sSeq (sIf (bOr (bNot (bVal (eIsi "tuple" (getB 7)))) (bCmp cNe (getB 7) (eTup (aCons (getD 4) (aCons (eOp oSub (eOp oSub (eUn oLen (getB 2)) (getB 4)) (getB 5)) (aCons (eFz (lSl (getB 3) (pSome (getB 4)) (pSome (eOp oSub (eUn oLen (getB 3)) (getB 5))))) aNil)))))) (sRet (eC (.bl false))) sNx) (sSeq (sIf (bOr (bCmp cNe (eCall m_splice (aCons (eFz (lLc [9] (setD 9) bYes e_law_2 (iSeq (getD 2)))) (aCons (eUn oTuple (getB 3)) aNil))) (getB 7)) (bCmp cNe (eFz (lCall m_spliced (aCons (eFz (lLc [9] (setD 9) bYes e_law_1 (iSeq (getD 2)))) (aCons (eFz (lUn oList (getB 7))) aNil)))) (getB 3))) (sRet (eC (.bl false))) sNx) (sSeq (sIf (bOr (bCmp cNe (getB 6) (eFz (lLst (aCons (getD 2) (aCons (getD 3) aNil))))) (bOr (bCmp cNe (eFz (lCall m_spliced (aCons (eOp oIx (getB 6) (eC (.int 0))) (aCons (getD 7) aNil)))) (getB 3)) (bCmp cNe (getB 6) (eFz (lLst (aCons (getD 2) (aCons (getD 3) aNil))))))) (sRet (eC (.bl false))) sNx) (sSeq (sSet 8 (eFz (lSl (getB 2) (pSome (getB 4)) (pSome (eOp oAdd (getB 4) (eOp oIx (getB 7) (eC (.int 1)))))))) (sIf (bAnd (bCmp cGt (eUn oLen (getB 8)) (eC (.int 0))) (bAnd (bCmp cGt (eUn oLen (eOp oIx (getB 7) (eC (.int 2)))) (eC (.int 0))) (bOr (bCmp cEq (eOp oIx (getB 8) (eC (.int 0))) (eOp oIx (eOp oIx (getB 7) (eC (.int 2))) (eC (.int 0)))) (bCmp cEq (eOp oIx (getB 8) (eUn oNeg (eC (.int 1)))) (eOp oIx (eOp oIx (getB 7) (eC (.int 2))) (eUn oNeg (eC (.int 1)))))))) (sRet (eC (.bl false))) sNx)))))))))
def m_law : List D → R Ret := runD 10 1 ((sSeq (sSet 1 (eFz (lCall m__law_lists (aCons (getD 0) aNil)))) (sSeq (sFor (iSeq (eFz (lLst (aCons (getD 1) (aCons (eFz (lUn oRev (getB 1))) (aCons (eFz (lLst (aCons (eOp oIx (getB 1) (eC (.int 0))) (aCons (eOp oIx (getB 1) (eC (.int 0))) aNil)))) aNil)))))) (gT 2 (gsCons (setD 2) (gsCons (setD 3) gsNil))) b_law_1) (sRet (eC (.bl true))))))
end K22
namespace K22
open PySem PySem.Spec PyProof.Rows L2 DL
def top (i : Nat) : Stmt := PySem.Challenge.pw_piecetold_k22_splices.main.body.getD i (.Pass ⟨0, 0, 0, 0⟩)
structure Bt (K : KF) (mg : Str → Option Value) : Prop where
  len : mg "len" = none
  int : mg "int" = none
  range : mg "range" = none
  tuple : mg "tuple" = none
  list : mg "list" = none
  isinstance : mg "isinstance" = none
  zip : mg "zip" = none
  min : mg "min" = none
abbrev s_common_prefix : Stmt := top 1
abbrev p_common_prefix : List Str := ["first", "second"]
abbrev N_common_prefix : List Str := ["first", "second", "many", "one", "other"]
theorem sc_common_prefix : FnScope N_common_prefix p_common_prefix (defScope s_common_prefix) := ⟨rfl, rfl, rfl, by decide +kernel, rfl, by decide +kernel, by decide +kernel⟩
theorem ok_common_prefix {P : Program} {w : World} {K : KF} {mg : Str → Option Value} {base : Heap} (B : Bt K mg) (h : Has K mg "common_prefix" s_common_prefix p_common_prefix) : Keeps P w K mg base "common_prefix" 1 p_common_prefix 2 m_common_prefix :=
  keeps_of h sc_common_prefix rfl fun f cdv A outer s H E hr =>
    (dss_cons (ds_set (ps_set (i := 2) sc_common_prefix.nd rfl (Or.inl rfl) dv_int))
    (dss_cons (ds_for (passes_of rfl) rfl (di_zip2 rfl B.zip (dv_name 0 (pv 0)) (dv_name 1 (pv 1))) (dg_tup rfl (dgs_cons (dg_name (pg_name (i := 3) sc_common_prefix.nd rfl (Or.inl rfl))) (dgs_cons (dg_name (pg_name (i := 4) sc_common_prefix.nd rfl (Or.inl rfl))) dgs_nil)))
    (dss_cons (ds_if (dt_cmp (op_neD hr.units) cd_ne (db_name 3 (pv 3)) (db_name 4 (pv 4)) (nomark _))
    (dss_one (ds_ret (dv_name 2 (pv 2))))
    dss_nil)
    (dss_one (ds_aug aug_add (ps_aug (i := 2) sc_common_prefix.nd rfl (Or.inl rfl) dv_int (iop_add.or iop_add_str))))))
    (dss_one (ds_ret (dv_name 2 (pv 2))))))
abbrev s_splice : Stmt := top 2
abbrev p_splice : List Str := ["first", "second"]
abbrev N_splice : List Str := ["first", "second", "old", "new", "prefix", "suffix", "message"]
theorem sc_splice : FnScope N_splice p_splice (defScope s_splice) := ⟨rfl, rfl, rfl, by decide +kernel, rfl, by decide +kernel, by decide +kernel⟩
theorem ok_splice {P : Program} {w : World} {K : KF} {mg : Str → Option Value} {base : Heap} (B : Bt K mg) (G_common_prefix : Keeps P w K mg base "common_prefix" 1 p_common_prefix 2 m_common_prefix) (h : Has K mg "splice" s_splice p_splice) : Keeps P w K mg base "splice" 2 p_splice 2 m_splice :=
  keeps_of h sc_splice rfl fun f cdv A outer s H E hr =>
    (dss_cons (ds_setFz (ps_lcG (W1 := wish mg fun _ _ _ _ => False) (W2 := wish mg fun _ _ _ _ => False) (own := [("message", 6)]) (i := 2) rfl sc_splice.nd rfl rfl (sw_true rfl rfl rfl (by decide +kernel)) (di_seq (dv_name 0 (pv 0))) (blkOk_by (own := [("message", 6)]) (N := N_splice) (sc := defScope s_splice) (by decide +kernel)) (fun _ _ _ _ _ => (dg_name (pg_name (i := 6) sc_splice.nd rfl (Or.inl rfl)))) (fun _ _ _ _ _ => dts_nil) (fun _ _ _ _ _ => (dv_tuple rfl B.tuple (db_name 6 (pv 6)))) (by decide)))
    (dss_cons (ds_setFz (ps_lcG (W1 := wish mg fun _ _ _ _ => False) (W2 := wish mg fun _ _ _ _ => False) (own := [("message", 6)]) (i := 3) rfl sc_splice.nd rfl rfl (sw_true rfl rfl rfl (by decide +kernel)) (di_seq (dv_name 1 (pv 1))) (blkOk_by (own := [("message", 6)]) (N := N_splice) (sc := defScope s_splice) (by decide +kernel)) (fun _ _ _ _ _ => (dg_name (pg_name (i := 6) sc_splice.nd rfl (Or.inl rfl)))) (fun _ _ _ _ _ => dts_nil) (fun _ _ _ _ _ => (dv_tuple rfl B.tuple (db_name 6 (pv 6)))) (by decide)))
    (dss_cons (ds_set (ps_set (i := 4) sc_splice.nd rfl (Or.inl rfl) (dv_callK G_common_prefix (hr.mono (by decide)) (takes_of rfl rfl rfl rfl) rfl (da_cons (dv_name 2 (pv 2)) (da_cons (dv_name 3 (pv 3)) da_nil)) (al_cons (al_cons al_nil)))))
    (dss_cons (ds_set (ps_set (i := 2) sc_splice.nd rfl (Or.inl rfl) (df_v (df_slice (db_name 2 (pv 2)) (dp_some (db_name 4 (pv 4))) dp_none))))
    (dss_cons (ds_set (ps_set (i := 3) sc_splice.nd rfl (Or.inl rfl) (df_v (df_slice (db_name 3 (pv 3)) (dp_some (db_name 4 (pv 4))) dp_none))))
    (dss_cons (ds_set (ps_set (i := 5) sc_splice.nd rfl (Or.inl rfl) (dv_callK G_common_prefix (hr.mono (by decide)) (takes_of rfl rfl rfl rfl) rfl (da_cons (df_v (df_rev (db_name 2 (pv 2)))) (da_cons (df_v (df_rev (db_name 3 (pv 3)))) da_nil)) (al_cons (al_cons al_nil)))))
    (dss_one (ds_ret (dv_tup (da_cons (dv_name 4 (pv 4)) (da_cons (dv_sub (dv_b (dv_len rfl B.len (db_name 2 (pv 2)))) (db_name 5 (pv 5))) (da_cons (df_v (df_slice (db_name 3 (pv 3)) dp_none (dp_some (dv_b (dv_sub (dv_b (dv_len rfl B.len (db_name 3 (pv 3)))) (db_name 5 (pv 5))))))) da_nil))))))))))))
abbrev s_spliced : Stmt := top 3
abbrev p_spliced : List Str := ["messages", "change"]
abbrev N_spliced : List Str := ["messages", "change", "place", "removed", "inserted", "old", "message"]
theorem sc_spliced : FnScope N_spliced p_spliced (defScope s_spliced) := ⟨rfl, rfl, rfl, by decide +kernel, rfl, by decide +kernel, by decide +kernel⟩
theorem ok_spliced {P : Program} {w : World} {K : KF} {mg : Str → Option Value} {base : Heap} (B : Bt K mg) (h : Has K mg "spliced" s_spliced p_spliced) : Keeps P w K mg base "spliced" 1 p_spliced 2 m_spliced :=
  keeps_of h sc_spliced rfl fun f cdv A outer s H E hr =>
    (dss_cons (ds_asg (ps_asg (dv_name 1 (pv 1)) (dg_tup rfl (dgs_cons (dg_name (pg_name (i := 2) sc_spliced.nd rfl (Or.inl rfl))) (dgs_cons (dg_name (pg_name (i := 3) sc_spliced.nd rfl (Or.inl rfl))) (dgs_cons (dg_name (pg_name (i := 4) sc_spliced.nd rfl (Or.inl rfl))) dgs_nil))))))
    (dss_cons (ds_setFz (ps_lcG (W1 := wish mg fun _ _ _ _ => False) (W2 := wish mg fun _ _ _ _ => False) (own := [("message", 6)]) (i := 5) rfl sc_spliced.nd rfl rfl (sw_true rfl rfl rfl (by decide +kernel)) (di_seq (dv_name 0 (pv 0))) (blkOk_by (own := [("message", 6)]) (N := N_spliced) (sc := defScope s_spliced) (by decide +kernel)) (fun _ _ _ _ _ => (dg_name (pg_name (i := 6) sc_spliced.nd rfl (Or.inl rfl)))) (fun _ _ _ _ _ => dts_nil) (fun _ _ _ _ _ => (dv_tuple rfl B.tuple (db_name 6 (pv 6)))) (by decide)))
    (dss_one (ds_retF (df_cat (df_b (df_cat (df_b (df_slice (db_name 5 (pv 5)) dp_none (dp_some (db_name 2 (pv 2))))) (df_b (df_lc (W1 := wish mg fun _ _ _ _ => False) (W2 := wish mg fun _ _ _ _ => False) (own := [("message", 6)]) rfl sc_spliced.nd (di_seq (dv_name 4 (pv 4))) (blkOk_by (own := [("message", 6)]) (N := N_spliced) (sc := defScope s_spliced) (by decide +kernel)) (fun _ _ _ _ _ => (dg_name (pg_name (i := 6) sc_spliced.nd rfl (Or.inl rfl)))) (fun _ _ _ _ _ => dts_nil) (fun _ _ _ _ _ => (dv_tuple rfl B.tuple (db_name 6 (pv 6)))) (by decide))))) (df_b (df_slice (db_name 5 (pv 5)) (dp_some (dv_b (dv_add (db_name 2 (pv 2)) (db_name 3 (pv 3))))) dp_none)))))))
abbrev s__law_cell : Stmt := top 5
abbrev p__law_cell : List Str := ["script", "k"]
abbrev N__law_cell : List Str := ["script", "k"]
theorem sc__law_cell : FnScope N__law_cell p__law_cell (defScope s__law_cell) := ⟨rfl, rfl, rfl, by decide +kernel, rfl, by decide +kernel, by decide +kernel⟩
theorem ok__law_cell {P : Program} {w : World} {K : KF} {mg : Str → Option Value} {base : Heap} (B : Bt K mg) (h : Has K mg "_law_cell" s__law_cell p__law_cell) : Keeps P w K mg base "_law_cell" 1 p__law_cell 2 m__law_cell :=
  keeps_of h sc__law_cell rfl fun f cdv A outer s H E hr =>
    (dss_cons (ds_if (dt_cmp op_lt cd_int (db_name 1 (pv 1)) (dv_b (dv_len rfl B.len (db_name 0 (pv 0)))) (nomark _))
    (dss_one (ds_ret (dv_ix (db_name 0 (pv 0)) (db_name 1 (pv 1)))))
    dss_nil)
    (dss_one (ds_ret dv_int)))
abbrev s__law_row : Stmt := top 6
abbrev p__law_row : List Str := ["cell", "count"]
abbrev N__law_row : List Str := ["cell", "count", "row", "rest", "seed", "k"]
theorem sc__law_row : FnScope N__law_row p__law_row (defScope s__law_row) := ⟨rfl, rfl, rfl, by decide +kernel, rfl, by decide +kernel, by decide +kernel⟩
theorem ok__law_row {P : Program} {w : World} {K : KF} {mg : Str → Option Value} {base : Heap} (B : Bt K mg) (h : Has K mg "_law_row" s__law_row p__law_row) : Keeps P w K mg base "_law_row" 1 p__law_row 2 m__law_row :=
  keeps_of h sc__law_row rfl fun f cdv A outer s H E hr =>
    (dss_cons (ds_setF (ps_set (i := 2) sc__law_row.nd rfl (Or.inl rfl) (df_lst da_nil)))
    (dss_cons (ds_set (ps_set (i := 3) sc__law_row.nd rfl (Or.inl rfl) (dv_name 0 (pv 0))))
    (dss_cons (ds_set (ps_set (i := 4) sc__law_row.nd rfl (Or.inl rfl) (dv_add (dv_b (dv_mod (dv_b (dv_int1 rfl B.int (db_name 0 (pv 0)))) (dv_b dv_int))) (dv_b dv_int))))
    (dss_cons (ds_for (passes_of rfl) rfl (di_range1 rfl B.range (db_name 1 (pv 1))) (dg_name (pg_name (i := 5) sc__law_row.nd rfl (Or.inl rfl)))
    (dss_one (ds_if (dt_cmp op_ge cd_int (db_name 0 (pv 0)) (dv_b (dv_pow (dv_b dv_int) (dv_b dv_int))) (nomark _))
    (dss_cons (ds_append 2 (pv 2) (dv_mod (dv_b (dv_int1 rfl B.int (db_name 3 (pv 3)))) (dv_b dv_int)))
    (dss_one (ds_set (ps_set (i := 3) sc__law_row.nd rfl (Or.inl rfl) (dv_div (db_name 3 (pv 3)) (dv_b dv_int))))))
    (dss_cons (ds_set (ps_set (i := 4) sc__law_row.nd rfl (Or.inl rfl) (dv_mod (dv_b (dv_int1 rfl B.int (dv_b (dv_add (dv_b (dv_mul (db_name 4 (pv 4)) (dv_b dv_int))) (db_name 5 (pv 5)))))) (dv_b dv_int))))
    (dss_one (ds_append 2 (pv 2) (dv_mod (dv_b (dv_div (dv_b (dv_mod (dv_b (dv_int1 rfl B.int (dv_b (dv_mul (db_name 4 (pv 4)) (dv_b dv_int))))) (dv_b dv_int))) (dv_b dv_int))) (dv_b dv_int))))))))
    (dss_one (ds_retOwn 2 (pv 2)))))))
abbrev s__law_lists : Stmt := top 7
abbrev p__law_lists : List Str := ["script"]
abbrev N__law_lists : List Str := ["script", "number", "first", "second", "at"]
theorem sc__law_lists : FnScope N__law_lists p__law_lists (defScope s__law_lists) := ⟨rfl, rfl, rfl, by decide +kernel, rfl, by decide +kernel, by decide +kernel⟩
theorem ok__law_lists {P : Program} {w : World} {K : KF} {mg : Str → Option Value} {base : Heap} (B : Bt K mg) (G__law_row : Keeps P w K mg base "_law_row" 1 p__law_row 2 m__law_row) (G__law_cell : Keeps P w K mg base "_law_cell" 1 p__law_cell 2 m__law_cell) (h : Has K mg "_law_lists" s__law_lists p__law_lists) : Keeps P w K mg base "_law_lists" 2 p__law_lists 1 m__law_lists :=
  keeps_of h sc__law_lists rfl fun f cdv A outer s H E hr =>
    (dss_cons (ds_setFz (ps_lcG (W1 := wish mg fun _ _ _ _ => False) (W2 := wish mg fun _ _ _ _ => False) (own := [("number", 1)]) (i := 2) rfl sc__law_lists.nd rfl rfl (sw_true rfl rfl rfl (by decide +kernel)) (di_seq (df_v (df_callK G__law_row (hr.mono (by decide)) (takes_of rfl rfl rfl rfl) rfl (da_cons (dv_callK G__law_cell (hr.mono (by decide)) (takes_of rfl rfl rfl rfl) rfl (da_cons (dv_name 0 (pv 0)) (da_cons dv_int da_nil)) (al_cons (al_cons al_nil))) (da_cons (dv_mod (dv_b (dv_callK G__law_cell (hr.mono (by decide)) (takes_of rfl rfl rfl rfl) rfl (da_cons (dv_name 0 (pv 0)) (da_cons dv_int da_nil)) (al_cons (al_cons al_nil)))) (dv_b dv_int)) da_nil)) (al_cons (al_cons al_nil))))) (blkOk_by (own := [("number", 1)]) (N := N__law_lists) (sc := defScope s__law_lists) (by decide +kernel)) (fun _ _ _ _ _ => (dg_name (pg_name (i := 1) sc__law_lists.nd rfl (Or.inl rfl)))) (fun _ _ _ _ _ => dts_nil) (fun _ _ _ _ _ => (dv_tup (da_cons (dv_ix (df_b (df_lst (da_cons dv_str (da_cons dv_str da_nil)))) (dv_b (dv_mod (db_name 1 (pv 1)) (dv_b dv_int)))) (da_cons (dv_mod (dv_b (dv_div (db_name 1 (pv 1)) (dv_b dv_int))) (dv_b dv_int)) da_nil)))) (by decide)))
    (dss_cons (ds_set (ps_set (i := 3) sc__law_lists.nd rfl (Or.inl rfl) (df_v (df_list rfl B.list (db_name 2 (pv 2))))))
    (dss_cons (ds_for (passes_of rfl) rfl (di_seq (df_v (df_cat (df_b (df_callK G__law_row (hr.mono (by decide)) (takes_of rfl rfl rfl rfl) rfl (da_cons (dv_callK G__law_cell (hr.mono (by decide)) (takes_of rfl rfl rfl rfl) rfl (da_cons (dv_name 0 (pv 0)) (da_cons dv_int da_nil)) (al_cons (al_cons al_nil))) (da_cons (dv_mod (dv_b (dv_callK G__law_cell (hr.mono (by decide)) (takes_of rfl rfl rfl rfl) rfl (da_cons (dv_name 0 (pv 0)) (da_cons dv_int da_nil)) (al_cons (al_cons al_nil)))) (dv_b dv_int)) da_nil)) (al_cons (al_cons al_nil)))) (dv_b (dv_sliceR (db_name 0 (pv 0)) (dp_some (dv_b dv_int)) (dp_some (dv_b dv_int))))))) (dg_name (pg_name (i := 1) sc__law_lists.nd rfl (Or.inl rfl)))
    (dss_cons (ds_set (ps_set (i := 4) sc__law_lists.nd rfl (Or.inl rfl) (dv_mod (dv_b (dv_div (db_name 1 (pv 1)) (dv_b dv_int))) (dv_b (dv_add (dv_b (dv_len rfl B.len (db_name 3 (pv 3)))) (dv_b dv_int))))))
    (dss_one (ds_if (dt_cmp (op_eqD hr.units) cd_eq (dv_b (dv_mod (db_name 1 (pv 1)) (dv_b dv_int))) (dv_b dv_int) (nomark _))
    (dss_one (ds_set (ps_set (i := 3) sc__law_lists.nd rfl (Or.inl rfl) (df_v (df_cat (df_b (df_cat (df_b (df_slice (db_name 3 (pv 3)) dp_none (dp_some (db_name 4 (pv 4))))) (df_b (df_lst (da_cons (dv_tup (da_cons dv_str (da_cons (dv_mod (dv_b (dv_div (db_name 1 (pv 1)) (dv_b dv_int))) (dv_b dv_int)) da_nil))) da_nil))))) (df_b (df_slice (db_name 3 (pv 3)) (dp_some (db_name 4 (pv 4))) dp_none)))))))
    (dss_one (ds_if (dt_cmp (op_eqD hr.units) cd_eq (dv_b (dv_mod (db_name 1 (pv 1)) (dv_b dv_int))) (dv_b dv_int) (nomark _))
    (dss_one (ds_set (ps_set (i := 3) sc__law_lists.nd rfl (Or.inl rfl) (df_v (df_cat (df_b (df_slice (db_name 3 (pv 3)) dp_none (dp_some (db_name 4 (pv 4))))) (df_b (df_slice (db_name 3 (pv 3)) (dp_some (dv_b (dv_add (dv_b (dv_add (db_name 4 (pv 4)) (dv_b dv_int))) (dv_b (dv_mod (dv_b (dv_div (db_name 1 (pv 1)) (dv_b dv_int))) (dv_b dv_int)))))) dp_none)))))))
    (dss_one (ds_if (dt_cmp (op_eqD hr.units) cd_eq (dv_b (dv_mod (db_name 1 (pv 1)) (dv_b dv_int))) (dv_b dv_int) (nomark _))
    (dss_one (ds_set (ps_set (i := 3) sc__law_lists.nd rfl (Or.inl rfl) (df_v (df_cat (df_b (df_cat (df_b (df_slice (db_name 3 (pv 3)) dp_none (dp_some (db_name 4 (pv 4))))) (df_b (df_rev (df_b (df_slice (db_name 3 (pv 3)) (dp_some (db_name 4 (pv 4))) (dp_some (dv_b (dv_add (db_name 4 (pv 4)) (dv_b dv_int)))))))))) (df_b (df_slice (db_name 3 (pv 3)) (dp_some (dv_b (dv_add (db_name 4 (pv 4)) (dv_b dv_int)))) dp_none)))))))
    (dss_one (ds_if (dt_cmp (op_eqD hr.units) cd_eq (dv_b (dv_mod (db_name 1 (pv 1)) (dv_b dv_int))) (dv_b dv_int) (nomark _))
    (dss_one (ds_set (ps_set (i := 3) sc__law_lists.nd rfl (Or.inl rfl) (df_v (df_cat (df_b (df_cat (df_b (df_slice (db_name 3 (pv 3)) dp_none (dp_some (db_name 4 (pv 4))))) (df_b (df_slice (db_name 3 (pv 3)) (dp_some (db_name 4 (pv 4))) (dp_some (dv_b (dv_add (db_name 4 (pv 4)) (dv_b dv_int)))))))) (df_b (df_slice (db_name 3 (pv 3)) (dp_some (db_name 4 (pv 4))) dp_none)))))))
    (dss_one (ds_set (ps_set (i := 3) sc__law_lists.nd rfl (Or.inl rfl) (df_v (df_cat (df_b (df_slice (db_name 3 (pv 3)) (dp_some (db_name 4 (pv 4))) dp_none)) (df_b (df_slice (db_name 3 (pv 3)) dp_none (dp_some (db_name 4 (pv 4))))))))))))))))))))
    (dss_one (ds_retF (df_lst (da_cons (dv_name 2 (pv 2)) (da_cons (dv_name 3 (pv 3)) da_nil))))))))
abbrev s__law_common : Stmt := top 8
abbrev p__law_common : List Str := ["first", "second"]
abbrev N__law_common : List Str := ["first", "second", "size", "k"]
theorem sc__law_common : FnScope N__law_common p__law_common (defScope s__law_common) := ⟨rfl, rfl, rfl, by decide +kernel, rfl, by decide +kernel, by decide +kernel⟩
theorem ok__law_common {P : Program} {w : World} {K : KF} {mg : Str → Option Value} {base : Heap} (B : Bt K mg) (h : Has K mg "_law_common" s__law_common p__law_common) : Keeps P w K mg base "_law_common" 1 p__law_common 2 m__law_common :=
  keeps_of h sc__law_common rfl fun f cdv A outer s H E hr =>
    (dss_cons (ds_set (ps_set (i := 2) sc__law_common.nd rfl (Or.inl rfl) dv_int))
    (dss_cons (ds_for (passes_of rfl) rfl (di_range1 rfl B.range (dv_b (dv_min2 rfl rfl B.min (dv_b (dv_len rfl B.len (db_name 0 (pv 0)))) (dv_b (dv_len rfl B.len (db_name 1 (pv 1))))))) (dg_name (pg_name (i := 3) sc__law_common.nd rfl (Or.inl rfl)))
    (dss_one (ds_if (PW.pt (dw_and (dt_cmp (op_eqD hr.units) cd_eq (db_name 2 (pv 2)) (db_name 3 (pv 3)) (nomark _)) (dw_and1 (dt_cmp (op_eqD hr.units) cd_eq (dv_b (dv_ix (db_name 0 (pv 0)) (db_name 3 (pv 3)))) (dv_b (dv_ix (db_name 1 (pv 1)) (db_name 3 (pv 3)))) (nomark _)))))
    (dss_one (ds_set (ps_set (i := 2) sc__law_common.nd rfl (Or.inl rfl) (dv_add (db_name 3 (pv 3)) (dv_b dv_int)))))
    dss_nil)))
    (dss_one (ds_ret (dv_name 2 (pv 2))))))
abbrev s_law : Stmt := top 9
abbrev p_law : List Str := ["script"]
abbrev N_law : List Str := ["script", "lists", "first", "second", "begin", "end", "given", "actual", "gone", "one"]
theorem sc_law : FnScope N_law p_law (defScope s_law) := ⟨rfl, rfl, rfl, by decide +kernel, rfl, by decide +kernel, by decide +kernel⟩
theorem ok_law {P : Program} {w : World} {K : KF} {mg : Str → Option Value} {base : Heap} (B : Bt K mg) (G__law_lists : Keeps P w K mg base "_law_lists" 2 p__law_lists 1 m__law_lists) (G__law_common : Keeps P w K mg base "_law_common" 1 p__law_common 2 m__law_common) (G_splice : Keeps P w K mg base "splice" 2 p_splice 2 m_splice) (G_spliced : Keeps P w K mg base "spliced" 1 p_spliced 2 m_spliced) {f : Addr} {fd : FuncData} (F : Fun K "law" "law" s_law f fd) : FnOk P w K mg base (L2.CX P w) 3 f fd p_law (spD K mg 1 m_law) :=
  fn_ok F sc_law rfl fun cdv A outer s H E hr =>
    (dss_cons (ds_set (ps_set (i := 1) sc_law.nd rfl (Or.inl rfl) (df_v (df_callK G__law_lists (hr.mono (by decide)) (takes_of rfl rfl rfl rfl) rfl (da_cons (dv_name 0 (pv 0)) da_nil) (al_cons al_nil)))))
    (dss_cons (ds_for (passes_of rfl) rfl (di_seq (df_v (df_lst (da_cons (dv_name 1 (pv 1)) (da_cons (df_v (df_rev (db_name 1 (pv 1)))) (da_cons (df_v (df_lst (da_cons (dv_ix (db_name 1 (pv 1)) (dv_b dv_int)) (da_cons (dv_ix (db_name 1 (pv 1)) (dv_b dv_int)) da_nil)))) da_nil)))))) (dg_tup rfl (dgs_cons (dg_name (pg_name (i := 2) sc_law.nd rfl (Or.inl rfl))) (dgs_cons (dg_name (pg_name (i := 3) sc_law.nd rfl (Or.inl rfl))) dgs_nil)))
    (dss_cons (ds_set (ps_set (i := 4) sc_law.nd rfl (Or.inl rfl) (dv_callK G__law_common (hr.mono (by decide)) (takes_of rfl rfl rfl rfl) rfl (da_cons (dv_name 2 (pv 2)) (da_cons (dv_name 3 (pv 3)) da_nil)) (al_cons (al_cons al_nil)))))
    (dss_cons (ds_set (ps_set (i := 5) sc_law.nd rfl (Or.inl rfl) (dv_callK G__law_common (hr.mono (by decide)) (takes_of rfl rfl rfl rfl) rfl (da_cons (df_v (df_rev (df_b (df_slice (db_name 2 (pv 2)) (dp_some (db_name 4 (pv 4))) dp_none)))) (da_cons (df_v (df_rev (df_b (df_slice (db_name 3 (pv 3)) (dp_some (db_name 4 (pv 4))) dp_none)))) da_nil)) (al_cons (al_cons al_nil)))))
    (dss_cons (ds_set (ps_set (i := 6) sc_law.nd rfl (Or.inl rfl) (df_v (df_lst (da_cons (df_v (df_list rfl B.list (db_name 2 (pv 2)))) (da_cons (df_v (df_list rfl B.list (db_name 3 (pv 3)))) da_nil))))))
    (dss_cons (ds_set (ps_set (i := 7) sc_law.nd rfl (Or.inl rfl) (dv_callK G_splice (hr.mono (by decide)) (takes_of rfl rfl rfl rfl) rfl (da_cons (dv_ix (db_name 6 (pv 6)) (dv_b dv_int)) (da_cons (dv_ix (db_name 6 (pv 6)) (dv_b dv_int)) da_nil)) (al_cons (al_cons al_nil)))))
    (dss_cons (ds_if (PW.pt (dw_or (dt_not (dt_val (dv_b (dv_isi rfl B.isinstance (db_name 7 (pv 7)) (pe_bltn rfl B.tuple (by decide +kernel) rfl))))) (dw_or1 (dt_cmp (op_neD hr.units) cd_ne (db_name 7 (pv 7)) (dv_b (dv_tup (da_cons (dv_name 4 (pv 4)) (da_cons (dv_sub (dv_b (dv_sub (dv_b (dv_len rfl B.len (db_name 2 (pv 2)))) (db_name 4 (pv 4)))) (db_name 5 (pv 5))) (da_cons (df_v (df_slice (db_name 3 (pv 3)) (dp_some (db_name 4 (pv 4))) (dp_some (dv_b (dv_sub (dv_b (dv_len rfl B.len (db_name 3 (pv 3)))) (db_name 5 (pv 5))))))) da_nil))))) (nomark _)))))
    (dss_one (ds_ret dv_bl))
    dss_nil)
    (dss_cons (ds_if (PW.pt (dw_or (dt_cmp (op_neD hr.units) cd_ne (dv_b (dv_callK G_splice (hr.mono (by decide)) (takes_of rfl rfl rfl rfl) rfl (da_cons (df_v (df_lc (W1 := wish mg fun _ _ _ _ => False) (W2 := wish mg fun _ _ _ _ => False) (own := [("one", 9)]) rfl sc_law.nd (di_seq (dv_name 2 (pv 2))) (blkOk_by (own := [("one", 9)]) (N := N_law) (sc := defScope s_law) (by decide +kernel)) (fun _ _ _ _ _ => (dg_name (pg_name (i := 9) sc_law.nd rfl (Or.inl rfl)))) (fun _ _ _ _ _ => dts_nil) (fun _ _ _ _ _ => (df_v (df_list rfl B.list (db_name 9 (pv 9))))) (by decide))) (da_cons (dv_tuple rfl B.tuple (db_name 3 (pv 3))) da_nil)) (al_cons (al_cons al_nil)))) (db_name 7 (pv 7)) (nomark _)) (dw_or1 (dt_cmp (op_neD hr.units) cd_ne (df_b (df_callK G_spliced (hr.mono (by decide)) (takes_of rfl rfl rfl rfl) rfl (da_cons (df_v (df_lc (W1 := wish mg fun _ _ _ _ => False) (W2 := wish mg fun _ _ _ _ => False) (own := [("one", 9)]) rfl sc_law.nd (di_seq (dv_name 2 (pv 2))) (blkOk_by (own := [("one", 9)]) (N := N_law) (sc := defScope s_law) (by decide +kernel)) (fun _ _ _ _ _ => (dg_name (pg_name (i := 9) sc_law.nd rfl (Or.inl rfl)))) (fun _ _ _ _ _ => dts_nil) (fun _ _ _ _ _ => (df_v (df_list rfl B.list (db_name 9 (pv 9))))) (by decide))) (da_cons (df_v (df_list rfl B.list (db_name 7 (pv 7)))) da_nil)) (al_cons (al_cons al_nil)))) (db_name 3 (pv 3)) (nomark _)))))
    (dss_one (ds_ret dv_bl))
    dss_nil)
    (dss_cons (ds_if (PW.pt (dw_or (dt_cmp (op_neD hr.units) cd_ne (db_name 6 (pv 6)) (df_b (df_lst (da_cons (dv_name 2 (pv 2)) (da_cons (dv_name 3 (pv 3)) da_nil)))) (nomark _)) (dw_or (dt_cmp (op_neD hr.units) cd_ne (df_b (df_callK G_spliced (hr.mono (by decide)) (takes_of rfl rfl rfl rfl) rfl (da_cons (dv_ix (db_name 6 (pv 6)) (dv_b dv_int)) (da_cons (dv_name 7 (pv 7)) da_nil)) (al_cons (al_cons al_nil)))) (db_name 3 (pv 3)) (nomark _)) (dw_or1 (dt_cmp (op_neD hr.units) cd_ne (db_name 6 (pv 6)) (df_b (df_lst (da_cons (dv_name 2 (pv 2)) (da_cons (dv_name 3 (pv 3)) da_nil)))) (nomark _))))))
    (dss_one (ds_ret dv_bl))
    dss_nil)
    (dss_cons (ds_set (ps_set (i := 8) sc_law.nd rfl (Or.inl rfl) (df_v (df_slice (db_name 2 (pv 2)) (dp_some (db_name 4 (pv 4))) (dp_some (dv_b (dv_add (db_name 4 (pv 4)) (dv_b (dv_ix (db_name 7 (pv 7)) (dv_b dv_int))))))))))
    (dss_one (ds_if (PW.pt (dw_and (dt_cmp op_gt cd_int (dv_b (dv_len rfl B.len (db_name 8 (pv 8)))) (dv_b dv_int) (nomark _)) (dw_and (dt_cmp op_gt cd_int (dv_b (dv_len rfl B.len (dv_b (dv_ix (db_name 7 (pv 7)) (dv_b dv_int))))) (dv_b dv_int) (nomark _)) (dw_and1 (PW.pt (dw_or (dt_cmp (op_eqD hr.units) cd_eq (dv_b (dv_ix (db_name 8 (pv 8)) (dv_b dv_int))) (dv_b (dv_ix (dv_b (dv_ix (db_name 7 (pv 7)) (dv_b dv_int))) (dv_b dv_int))) (nomark _)) (dw_or1 (dt_cmp (op_eqD hr.units) cd_eq (dv_b (dv_ix (db_name 8 (pv 8)) (dv_b (dv_neg (dv_b dv_int))))) (dv_b (dv_ix (dv_b (dv_ix (db_name 7 (pv 7)) (dv_b dv_int))) (dv_b (dv_neg (dv_b dv_int))))) (nomark _)))))))))
    (dss_one (ds_ret dv_bl))
    dss_nil)))))))))))
    (dss_one (ds_ret dv_bl))))
end K22
namespace K22H
open PySem PySem.Spec PyProof.Rows L2
def top (i : Nat) : Stmt := PySem.Challenge.pw_piecetold_k22_splices.main.body.getD i (.Pass ⟨0, 0, 0, 0⟩)
def d_common_prefix : He.DefD := ⟨("common_prefix", none), "common_prefix", "common_prefix", defArgs (top 1), defBody (top 1), defScope (top 1), [], []⟩
def d_splice : He.DefD := ⟨("splice", none), "splice", "splice", defArgs (top 2), defBody (top 2), defScope (top 2), [], []⟩
def d_spliced : He.DefD := ⟨("spliced", none), "spliced", "spliced", defArgs (top 3), defBody (top 3), defScope (top 3), [], []⟩
def d__law_cell : He.DefD := ⟨("_law_cell", none), "_law_cell", "_law_cell", defArgs (top 5), defBody (top 5), defScope (top 5), [], []⟩
def d__law_row : He.DefD := ⟨("_law_row", none), "_law_row", "_law_row", defArgs (top 6), defBody (top 6), defScope (top 6), [], []⟩
def d__law_lists : He.DefD := ⟨("_law_lists", none), "_law_lists", "_law_lists", defArgs (top 7), defBody (top 7), defScope (top 7), [], []⟩
def d__law_common : He.DefD := ⟨("_law_common", none), "_law_common", "_law_common", defArgs (top 8), defBody (top 8), defScope (top 8), [], []⟩
def d_law : He.DefD := ⟨("law", none), "law", "law", defArgs (top 9), defBody (top 9), defScope (top 9), [], []⟩
def fn : List He.DefD := [d_common_prefix, d_splice, d_spliced, d__law_cell, d__law_row, d__law_lists, d__law_common, d_law]
def fa : List He.Fa := [.glo "common_prefix", .glo "splice", .glo "spliced", .glo "_law_cell", .glo "_law_row", .glo "_law_lists", .glo "_law_common", .glo "law", .free "len", .free "int", .free "range", .free "tuple", .free "list", .free "isinstance", .free "zip", .free "min"]
abbrev R : PySem.W.OpenRow := PySem.W.OpenLaw.row PySem.Challenge.rw_piecetold_k22_splices
def ex (K : PySem.W.Frag) : Bool := (([] : List PySem.Str)).all (DL.instB K) && (([] : List PySem.Str)).all fun x => DL.knilB K (He.dflAt (x, some "__init__") 0 K)
abbrev hk : PySem.W.Hook := DL.hookX 5 fa fn ex
def ob (s : PySem.W.SharedT) : He.AlD × Bool := DL.obsX 5 fa fn ex (HandSHeadRun.getT s)
theorem ob_eq (s : PySem.W.SharedT) : ob s = hk.obs s.abs := DL.obsX_eq (HandSHeadRun.getT_eq s)
def names : List PySem.Str := (["common_prefix", "splice", "spliced", "_law_cell", "_law_row", "_law_lists", "_law_common"] : List PySem.Str)
theorem run (w : World) : HandSHeadRun.RunEq R (PySem.W.view R.prog [9]) hk ob 8000 names w := by
  intro os
  kernel_rfl
end K22H
namespace K22E
open PySem PySem.Spec PyProof.Rows L2 DL K22
theorem bt {K : KF} {h : Heap} {mg : Str → Option Value} (X : K.In h) (G : h.Ns mainGlobals mg) (c : He.SaysD K22H.fa K22H.fn K) (cx : K22H.ex K = true) : Bt K mg where
  len := He.free_ok X G (c.fact 8 (f := .free "len") rfl)
  int := He.free_ok X G (c.fact 9 (f := .free "int") rfl)
  range := He.free_ok X G (c.fact 10 (f := .free "range") rfl)
  tuple := He.free_ok X G (c.fact 11 (f := .free "tuple") rfl)
  list := He.free_ok X G (c.fact 12 (f := .free "list") rfl)
  isinstance := He.free_ok X G (c.fact 13 (f := .free "isinstance") rfl)
  zip := He.free_ok X G (c.fact 14 (f := .free "zip") rfl)
  min := He.free_ok X G (c.fact 15 (f := .free "min") rfl)
theorem has_common_prefix {K : KF} {h : Heap} {mg : Str → Option Value} (X : K.In h) (G : h.Ns mainGlobals mg) (c : He.SaysD K22H.fa K22H.fn K) : Has K mg "common_prefix" s_common_prefix p_common_prefix := by
  obtain ⟨fd, F⟩ := c.def_ 0 (d := K22H.d_common_prefix) rfl
  exact has_def (He.glo_ok X G (c.fact 0 (f := .glo "common_prefix") rfl)) F fun _ _ _ _ _ _ us hl => match us, hl with | [_, _], _ => rfl
theorem has_splice {K : KF} {h : Heap} {mg : Str → Option Value} (X : K.In h) (G : h.Ns mainGlobals mg) (c : He.SaysD K22H.fa K22H.fn K) : Has K mg "splice" s_splice p_splice := by
  obtain ⟨fd, F⟩ := c.def_ 1 (d := K22H.d_splice) rfl
  exact has_def (He.glo_ok X G (c.fact 1 (f := .glo "splice") rfl)) F fun _ _ _ _ _ _ us hl => match us, hl with | [_, _], _ => rfl
theorem has_spliced {K : KF} {h : Heap} {mg : Str → Option Value} (X : K.In h) (G : h.Ns mainGlobals mg) (c : He.SaysD K22H.fa K22H.fn K) : Has K mg "spliced" s_spliced p_spliced := by
  obtain ⟨fd, F⟩ := c.def_ 2 (d := K22H.d_spliced) rfl
  exact has_def (He.glo_ok X G (c.fact 2 (f := .glo "spliced") rfl)) F fun _ _ _ _ _ _ us hl => match us, hl with | [_, _], _ => rfl
theorem has__law_cell {K : KF} {h : Heap} {mg : Str → Option Value} (X : K.In h) (G : h.Ns mainGlobals mg) (c : He.SaysD K22H.fa K22H.fn K) : Has K mg "_law_cell" s__law_cell p__law_cell := by
  obtain ⟨fd, F⟩ := c.def_ 3 (d := K22H.d__law_cell) rfl
  exact has_def (He.glo_ok X G (c.fact 3 (f := .glo "_law_cell") rfl)) F fun _ _ _ _ _ _ us hl => match us, hl with | [_, _], _ => rfl
theorem has__law_row {K : KF} {h : Heap} {mg : Str → Option Value} (X : K.In h) (G : h.Ns mainGlobals mg) (c : He.SaysD K22H.fa K22H.fn K) : Has K mg "_law_row" s__law_row p__law_row := by
  obtain ⟨fd, F⟩ := c.def_ 4 (d := K22H.d__law_row) rfl
  exact has_def (He.glo_ok X G (c.fact 4 (f := .glo "_law_row") rfl)) F fun _ _ _ _ _ _ us hl => match us, hl with | [_, _], _ => rfl
theorem has__law_lists {K : KF} {h : Heap} {mg : Str → Option Value} (X : K.In h) (G : h.Ns mainGlobals mg) (c : He.SaysD K22H.fa K22H.fn K) : Has K mg "_law_lists" s__law_lists p__law_lists := by
  obtain ⟨fd, F⟩ := c.def_ 5 (d := K22H.d__law_lists) rfl
  exact has_def (He.glo_ok X G (c.fact 5 (f := .glo "_law_lists") rfl)) F fun _ _ _ _ _ _ us hl => match us, hl with | [_], _ => rfl
theorem has__law_common {K : KF} {h : Heap} {mg : Str → Option Value} (X : K.In h) (G : h.Ns mainGlobals mg) (c : He.SaysD K22H.fa K22H.fn K) : Has K mg "_law_common" s__law_common p__law_common := by
  obtain ⟨fd, F⟩ := c.def_ 6 (d := K22H.d__law_common) rfl
  exact has_def (He.glo_ok X G (c.fact 6 (f := .glo "_law_common") rfl)) F fun _ _ _ _ _ _ us hl => match us, hl with | [_, _], _ => rfl
theorem facts {w : World} {K : KF} {h : Heap} {mg : Str → Option Value} {f : Addr} (X : K.In h) (G : h.Ns mainGlobals mg) (hfa : mg ("law" : Str) = some (.ref f)) (c : He.SaysD K22H.fa K22H.fn K) (cx : K22H.ex K = true) :
    ∃ fd : FuncData, (∀ (s : Shared) (v : Value), BindsTo s fd ⟨[v], []⟩ [("script", v)]) ∧ ∀ base : Heap, K.In base → base.Ns mainGlobals mg → FnOk (PySem.Challenge.rw_piecetold_k22_splices).prog w K mg base (L2.CX (PySem.Challenge.rw_piecetold_k22_splices).prog w) 3 f fd ["script"] (spD K mg 1 m_law) := by
  have B := bt X G c cx
  obtain ⟨fd, F⟩ := c.def_ 7 (d := K22H.d_law) rfl
  have e := hfa.symm.trans (He.glo_ok X G (c.fact 7 (f := .glo "law") rfl))
  cases e
  have b := FunD.bindsA (ps := ["script"]) F fun _ _ _ _ _ _ us hl => match us, hl with | [_], _ => rfl
  refine ⟨fd, fun s v => b s [v] rfl, fun base _ _ => ?_⟩
  have G_common_prefix := ok_common_prefix (P := (PySem.Challenge.rw_piecetold_k22_splices).prog) (w := w) (base := base) B  (has_common_prefix X G c)
  have G_splice := ok_splice (P := (PySem.Challenge.rw_piecetold_k22_splices).prog) (w := w) (base := base) B G_common_prefix (has_splice X G c)
  have G_spliced := ok_spliced (P := (PySem.Challenge.rw_piecetold_k22_splices).prog) (w := w) (base := base) B  (has_spliced X G c)
  have G__law_cell := ok__law_cell (P := (PySem.Challenge.rw_piecetold_k22_splices).prog) (w := w) (base := base) B  (has__law_cell X G c)
  have G__law_row := ok__law_row (P := (PySem.Challenge.rw_piecetold_k22_splices).prog) (w := w) (base := base) B  (has__law_row X G c)
  have G__law_lists := ok__law_lists (P := (PySem.Challenge.rw_piecetold_k22_splices).prog) (w := w) (base := base) B G__law_row G__law_cell (has__law_lists X G c)
  have G__law_common := ok__law_common (P := (PySem.Challenge.rw_piecetold_k22_splices).prog) (w := w) (base := base) B  (has__law_common X G c)
  exact ok_law B G__law_lists G__law_common G_splice G_spliced (fun_D F)
end K22E
open PySem PySem.W PySem.Calls PyProof.Rows
theorem K22_of (math : ∀ ns : List Int, ns.length ≤ 63 → K22.m_law [DL.D.scr ns] = .ok (.val (.bl true))) : PySem.Challenge.rw_piecetold_k22_splices.Holds := by
  w_on; o_law
  refine HandSHeadRun.head_any (r := OpenLaw.row PySem.Challenge.rw_piecetold_k22_splices) (q := view (OpenLaw.row PySem.Challenge.rw_piecetold_k22_splices).prog [9]) (H := K22H.hk) (ob := K22H.ob) (M := 8000) (loose := K22H.names) (d := HandSHeadRun.topDef (OpenLaw.row PySem.Challenge.rw_piecetold_k22_splices).prog 9) (kwd := []) K22H.ob_eq
    (by kernel_rfl) (fun s => by kernel_rfl) K22H.run (by kernel_rfl) (by kernel_rfl) (by kernel_rfl) (by rfl) (by first | assumption | decide +kernel) (by decide +kernel) ⟨rfl, rfl, rfl, rfl, rfl, by decide +kernel⟩ ?hw ?hc
  case hw => w_witness2
  case hc =>
    refine DL.walk_ofX (l := PySem.Challenge.rw_piecetold_k22_splices) (n := 63) (k := 3) (x := "script") (CX := fun w => L2.CX (PySem.Challenge.rw_piecetold_k22_splices).prog w) rfl (by decide) (by kernel_rfl) ⟨rfl, by decide, by decide⟩ ?F (fun _ _ _ _ _ z => DL.cx_none z)
    intro w mg fa h Y G hmg0
    obtain ⟨K, KX, c, cx⟩ := Y
    have hmg : mg ("law" : PySem.Str) = some (.ref fa) := by
      have e : (HandSHeadRun.topDef (OpenLaw.row PySem.Challenge.rw_piecetold_k22_splices).prog 9).name = ("law" : PySem.Str) := by kernel_rfl
      rw [← e]
      exact hmg0
    obtain ⟨fd, hb, hF⟩ := K22E.facts (w := w) KX G hmg c cx
    exact ⟨K, fd, DL.spD K mg 1 K22.m_law, KX, hb, fun H a ns hl _ hS => DL.spD_law (math ns hl) hS, hF⟩
/-! DM: mathematics over mirrors. -/
namespace DL
open PySem PySem.Spec PyProof.Rows L2

/-! ### items, slices -/
theorem atI_ofNat {α : Type} (xs : List α) (k : Nat) : atI xs (k : Int) = xs[k]? := by
  cases h : xs[k]? with
  | some v => exact atI_nat h
  | none =>
    have hk : xs.length ≤ k := List.getElem?_eq_none_iff.mp h
    unfold atI ixN
    rw [if_pos (by omega), if_neg (by omega)]; rfl
theorem atI_int {α : Type} {xs : List α} {i : Int} (h : 0 ≤ i) : atI xs i = xs[i.toNat]? := by
  conv => lhs; rw [show i = ((i.toNat : Nat) : Int) by omega]
  exact atI_ofNat _ _
theorem sIx_ofNat (n d k : Nat) : HT.sIx n d (some (k : Int)) = min k n := HT.sIx_nat n d k
theorem cut_to {α : Type} (xs : List α) (k : Nat) : cut xs none (some (k : Int)) = xs.take k := by
  unfold cut
  rw [HT.sIx_none, HT.sIx_nat, List.drop_zero, Nat.sub_zero, ← List.take_eq_take_min]
theorem cut_from {α : Type} (xs : List α) (k : Nat) : cut xs (some (k : Int)) none = xs.drop k := by
  unfold cut
  rw [HT.sIx_none, HT.sIx_nat]
  rcases Nat.le_total k xs.length with h | h
  · rw [Nat.min_eq_left h]; exact List.take_of_length_le (by simp)
  · rw [Nat.min_eq_right h, List.drop_of_length_le (Nat.le_refl _), List.drop_of_length_le h, List.take_nil]
theorem cut_mid {α : Type} (xs : List α) (j k : Nat) : cut xs (some (j : Int)) (some (k : Int)) = (xs.drop j).take (k - j) := by
  unfold cut
  rw [HT.sIx_nat, HT.sIx_nat]
  rcases Nat.le_total j xs.length with h | h
  · rw [Nat.min_eq_left h]
    rcases Nat.le_total k xs.length with h2 | h2
    · rw [Nat.min_eq_left h2]
    · rw [Nat.min_eq_right h2, List.take_of_length_le (by simp), List.take_of_length_le (by simp; omega)]
  · rw [Nat.min_eq_right h, List.drop_of_length_le (Nat.le_refl _), List.drop_of_length_le h, List.take_nil, List.take_nil]

/-! ### == of equal data -/
inductive EqD : Nat → D → Prop
  | non (n : Nat) : EqD n .non
  | bl (n : Nat) (b : Bool) : EqD n (.bl b)
  | int (n : Nat) (i : Int) : EqD n (.int i)
  | str (n : Nat) {x : Str} : PyData.strOk x = true → EqD n (.str x)
  | tup {n : Nat} {xs : List D} : (∀ d ∈ xs, EqD n d) → EqD (n + 1) (.tup xs)
  | lst {n : Nat} {xs : List D} : (∀ d ∈ xs, EqD n d) → EqD (n + 1) (.lst xs)
theorem EqD.mono {n m : Nat} {d : D} (h : EqD n d) (k : n ≤ m) : EqD m d := by
  induction h generalizing m with
  | non => exact .non _
  | bl => exact .bl _ _
  | int => exact .int _ _
  | str _ h => exact .str _ h
  | tup h ih =>
    obtain ⟨m, rfl⟩ : ∃ j, m = j + 1 := ⟨m - 1, by omega⟩
    exact .tup fun d hd => ih d hd (by omega)
  | lst h ih =>
    obtain ⟨m, rfl⟩ : ∃ j, m = j + 1 := ⟨m - 1, by omega⟩
    exact .lst fun d hd => ih d hd (by omega)
theorem pys_ok {n : Nat} : ∀ {xs : List D}, (∀ d ∈ xs, ∃ p, d.py = some p ∧ p.canLay0 = true ∧ p.depth ≤ n) → ∃ ps, pys xs = some ps ∧ PyData.canLayAll0 ps = true ∧ PyData.depthAll ps ≤ n
  | [], _ => ⟨[], rfl, rfl, Nat.zero_le _⟩
  | d :: ds, h => by
    obtain ⟨p, h1, h2, h3⟩ := h d List.mem_cons_self
    obtain ⟨ps, h4, h5, h6⟩ := pys_ok fun d hd => h d (List.mem_cons_of_mem _ hd)
    refine ⟨p :: ps, by simp [pys, h1, h4], by simp [PyData.canLayAll0, h2, h5], ?_⟩
    simp only [PyData.depthAll]
    omega
theorem EqD.py {n : Nat} {d : D} (h : EqD n d) : ∃ p, d.py = some p ∧ p.canLay0 = true ∧ p.depth ≤ n := by
  induction h with
  | non => exact ⟨_, rfl, rfl, Nat.zero_le _⟩
  | bl => exact ⟨_, rfl, rfl, Nat.zero_le _⟩
  | int => exact ⟨_, rfl, rfl, Nat.zero_le _⟩
  | str _ h => exact ⟨_, rfl, by simpa [PyData.canLay0] using h, Nat.zero_le _⟩
  | tup h ih =>
    obtain ⟨ps, h1, h2, h3⟩ := pys_ok ih
    exact ⟨.tuple ps, by simp [D.py, h1], by simpa [PyData.canLay0] using h2, by simp only [PyData.depth]; omega⟩
  | lst h ih =>
    obtain ⟨ps, h1, h2, h3⟩ := pys_ok ih
    exact ⟨.list ps, by simp [D.py, h1], by simpa [PyData.canLay0] using h2, by simp only [PyData.depth]; omega⟩
theorem cEq_self {d : D} (h : EqD 64 d) : cEq d d = some true := by
  obtain ⟨p, h1, h2, h3⟩ := h.py
  have hs : SeqAt.shaped p = true := by
    unfold SeqAt.shaped
    rw [h2, Bool.true_and]
    exact decide_eq_true h3
  unfold cEq
  rw [h1]
  show (some p).bind _ = _
  simp only [Option.bind_some, hs, Bool.and_self, if_pos]
  exact congrArg some (SeqAt.eqv_refl p h2)
theorem cNe_self {d : D} (h : EqD 64 d) : cNe d d = some false := by
  unfold cNe; rw [cEq_self h]; rfl
@[simp] theorem cEq_int (i j : Int) : cEq (.int i) (.int j) = some (i == j) := rfl
theorem cEq_str {x y : Str} (hx : PyData.strOk x = true) (hy : PyData.strOk y = true) : cEq (.str x) (.str y) = some (x == y) := by
  unfold cEq
  simp [D.py, SeqAt.shaped, PyData.canLay0, hx, hy, PyData.depth, PyData.eqv]

/-! ### loops -/
/-- a loop with an invariant that no turn leaves -/
theorem forD_inv {gt : D → Env → Option Env} {g : Env → Option Out} {Sg : Type} (st : Sg → Env) (P : List D → Sg → Prop) (items : List D)
    (step : ∀ pre d post s, items = pre ++ d :: post → P pre s → ∃ ρ1 s', gt d (st s) = some ρ1 ∧ (g ρ1 = some (.nx (st s')) ∨ g ρ1 = some (.ct (st s'))) ∧ P (pre ++ [d]) s') :
    ∀ pre post s, items = pre ++ post → P pre s → ∃ s', forD gt g post (st s) = some (.nx (st s')) ∧ P items s'
  | pre, [], s, e, p => ⟨s, rfl, by rw [e, List.append_nil]; exact p⟩
  | pre, d :: post, s, e, p => by
    obtain ⟨ρ1, s1, e1, e2, p1⟩ := step pre d post s e p
    obtain ⟨s', e3, p3⟩ := forD_inv st P items step (pre ++ [d]) post s1 (by rw [e]; simp) p1
    refine ⟨s', ?_, p3⟩
    unfold forD
    rw [e1]
    rcases e2 with e2 | e2
    · simp only [Option.bind_some, e2, afterO_nx]; exact e3
    · simp only [Option.bind_some, e2, afterO_ct]; exact e3
theorem forD_run {gt : D → Env → Option Env} {g : Env → Option Out} {Sg : Type} (st : Sg → Env) (P : List D → Sg → Prop) (items : List D) (s : Sg) (h0 : P [] s)
    (step : ∀ pre d post s, items = pre ++ d :: post → P pre s → ∃ ρ1 s', gt d (st s) = some ρ1 ∧ (g ρ1 = some (.nx (st s')) ∨ g ρ1 = some (.ct (st s'))) ∧ P (pre ++ [d]) s') :
    ∃ s', forD gt g items (st s) = some (.nx (st s')) ∧ P items s' := forD_inv st P items step [] items s rfl h0
/-- .. over things that are coded -/
theorem forD_map {gt : D → Env → Option Env} {g : Env → Option Out} {Sg α : Type} (c : α → D) (st : Sg → Env) (P : List α → Sg → Prop) (xs : List α)
    (step : ∀ pre x post s, xs = pre ++ x :: post → P pre s → ∃ ρ1 s', gt (c x) (st s) = some ρ1 ∧ (g ρ1 = some (.nx (st s')) ∨ g ρ1 = some (.ct (st s'))) ∧ P (pre ++ [x]) s') :
    ∀ pre post s, xs = pre ++ post → P pre s → ∃ s', forD gt g (post.map c) (st s) = some (.nx (st s')) ∧ P xs s'
  | pre, [], s, e, p => ⟨s, rfl, by rw [e, List.append_nil]; exact p⟩
  | pre, d :: post, s, e, p => by
    obtain ⟨ρ1, s1, e1, e2, p1⟩ := step pre d post s e p
    obtain ⟨s', e3, p3⟩ := forD_map c st P xs step (pre ++ [d]) post s1 (by rw [e]; simp) p1
    refine ⟨s', ?_, p3⟩
    rw [List.map_cons]
    unfold forD
    rw [e1]
    rcases e2 with e2 | e2
    · simp only [Option.bind_some, e2, afterO_nx]; exact e3
    · simp only [Option.bind_some, e2, afterO_ct]; exact e3
theorem for_map {gt : D → Env → Option Env} {g : Env → Option Out} {Sg α : Type} (c : α → D) (st : Sg → Env) (P : List α → Sg → Prop) (xs : List α) (s : Sg) (h0 : P [] s)
    (step : ∀ pre x post s, xs = pre ++ x :: post → P pre s → ∃ ρ1 s', gt (c x) (st s) = some ρ1 ∧ (g ρ1 = some (.nx (st s')) ∨ g ρ1 = some (.ct (st s'))) ∧ P (pre ++ [x]) s') :
    ∃ s', forD gt g (xs.map c) (st s) = some (.nx (st s')) ∧ P xs s' := forD_map c st P xs step [] xs s rfl h0
/-- a loop's states, one after another, by a function -/
theorem for_fold {gt : D → Env → Option Env} {g : Env → Option Out} {Sg α : Type} (c : α → D) (st : Sg → Env) (f : Sg → α → Sg)
    (step : ∀ x s, ∃ ρ1, gt (c x) (st s) = some ρ1 ∧ g ρ1 = some (.nx (st (f s x)))) : ∀ (xs : List α) (s : Sg), forD gt g (xs.map c) (st s) = some (.nx (st (xs.foldl f s)))
  | [], s => rfl
  | x :: xs, s => by
    obtain ⟨ρ1, e1, e2⟩ := step x s
    rw [List.map_cons]
    unfold forD
    rw [e1]
    simp only [Option.bind_some, e2, afterO_nx, List.foldl_cons]
    exact for_fold c st f step xs (f s x)
/-- a search: the first that is found ends the loop -/
theorem for_find {gt : D → Env → Option Env} {g : Env → Option Out} {α : Type} (c : α → D) (J : Env → Prop) (p : α → Bool) (out : α → Ret) :
    ∀ (xs : List α) (_ : ∀ x ∈ xs, ∀ ρ, J ρ → ∃ ρ1, gt (c x) ρ = some ρ1 ∧ (p x = true → g ρ1 = some (.rt (out x))) ∧ (p x = false → ∃ ρ2, g ρ1 = some (.nx ρ2) ∧ J ρ2)) (ρ : Env), J ρ →
      (∃ x, xs.find? p = some x ∧ forD gt g (xs.map c) ρ = some (.rt (out x))) ∨ (xs.find? p = none ∧ ∃ ρ2, forD gt g (xs.map c) ρ = some (.nx ρ2) ∧ J ρ2)
  | [], _, ρ, j => .inr ⟨rfl, ρ, rfl, j⟩
  | x :: xs, h, ρ, j => by
    obtain ⟨ρ1, e1, e2, e3⟩ := h x List.mem_cons_self ρ j
    rw [List.map_cons]
    unfold forD
    rw [e1]
    cases hp : p x with
    | true =>
      refine .inl ⟨x, by simp [List.find?, hp], ?_⟩
      simp only [Option.bind_some, e2 hp, afterO_rt]
    | false =>
      obtain ⟨ρ2, e4, j2⟩ := e3 hp
      simp only [Option.bind_some, e4, afterO_nx, List.find?, hp]
      exact for_find c J p out xs (fun y hy => h y (List.mem_cons_of_mem _ hy)) ρ2 j2

/-! ### comprehensions -/
theorem lcAll_map {α : Type} (c : α → D) {item : D → Option (Option D)} {f : α → D} : ∀ {xs : List α}, (∀ x ∈ xs, item (c x) = some (some (f x))) → lcAll item (xs.map c) = some (xs.map f)
  | [], _ => rfl
  | x :: xs, h => by
    rw [List.map_cons]
    unfold lcAll
    rw [h x List.mem_cons_self, lcAll_map c (f := f) fun y hy => h y (List.mem_cons_of_mem _ hy)]
    rfl
theorem lcAll_filter {α : Type} (c : α → D) {item : D → Option (Option D)} {p : α → Bool} {f : α → D} : ∀ {xs : List α}, (∀ x ∈ xs, item (c x) = some (if p x = true then some (f x) else none)) → lcAll item (xs.map c) = some ((xs.filter p).map f)
  | [], _ => rfl
  | x :: xs, h => by
    rw [List.map_cons]
    unfold lcAll
    rw [h x List.mem_cons_self, lcAll_filter c (p := p) (f := f) fun y hy => h y (List.mem_cons_of_mem _ hy)]
    cases hp : p x <;> simp [List.filter, hp]
theorem lc_map {α : Type} (c : α → D) {vs : List Nat} {gt : D → Env → Option Env} {tt : Env → R Bool} {fe : Env → R D} {ρ : Env} {f : α → D} {xs : List α} (few : xs.length ≤ 16777216) (h : ∀ x ∈ xs, lcItem vs gt tt fe ρ (c x) = some (some (f x))) :
    lcF vs gt tt fe ρ (xs.map c) = some (xs.map f) := by
  unfold lcF
  rw [if_pos (show DL.few (xs.map c) from by unfold DL.few; simpa using few)]
  exact lcAll_map c h
theorem lc_filter {α : Type} (c : α → D) {vs : List Nat} {gt : D → Env → Option Env} {tt : Env → R Bool} {fe : Env → R D} {ρ : Env} {p : α → Bool} {f : α → D} {xs : List α} (few : xs.length ≤ 16777216) (h : ∀ x ∈ xs, lcItem vs gt tt fe ρ (c x) = some (if p x = true then some (f x) else none)) :
    lcF vs gt tt fe ρ (xs.map c) = some ((xs.filter p).map f) := by
  unfold lcF
  rw [if_pos (show DL.few (xs.map c) from by unfold DL.few; simpa using few)]
  exact lcAll_filter c h

/-! ### readings -/
@[simp] theorem calm_ok {α : Type} (a : α) : calm (.ok a) = some a := rfl
@[simp] theorem Ret_v_val (d : D) : Ret.v (.val d) = d := rfl
@[simp] theorem Ret_v_frl (d : List D) : Ret.v (.frl d) = .lst d := rfl
@[simp] theorem Ret_f_frl (d : List D) : Ret.f (.frl d) = some d := rfl
@[simp] theorem oItems_lst (xs : List D) : oItems (.lst xs) = some xs := rfl
@[simp] theorem oItems_tup (xs : List D) : oItems (.tup xs) = some xs := rfl
@[simp] theorem oSeq_lst (xs : List D) : oSeq (.lst xs) = some (true, xs) := rfl
@[simp] theorem oSeq_tup (xs : List D) : oSeq (.tup xs) = some (false, xs) := rfl
@[simp] theorem oIx_lst (xs : List D) (i : Int) : oIx (.lst xs) (.int i) = atI xs i := rfl
@[simp] theorem oIx_tup (xs : List D) (i : Int) : oIx (.tup xs) (.int i) = atI xs i := rfl
@[simp] theorem oIx_scr (xs : List Int) (i : Int) : oIx (.scr xs) (.int i) = (atI xs i).map .int := rfl
@[simp] theorem oLen_lst (xs : List D) : oLen (.lst xs) = some (.int xs.length) := rfl
@[simp] theorem oLen_tup (xs : List D) : oLen (.tup xs) = some (.int xs.length) := rfl
@[simp] theorem oLen_scr (xs : List Int) : oLen (.scr xs) = some (.int xs.length) := rfl
@[simp] theorem cInt_int (p : Int → Int → Bool) (i j : Int) : cInt p (.int i) (.int j) = some (p i j) := rfl
@[simp] theorem oAdd_int (i j : Int) : oAdd (.int i) (.int j) = some (.int (i + j)) := rfl
@[simp] theorem oSub_int (i j : Int) : oSub (.int i) (.int j) = some (.int (i - j)) := rfl
theorem oMul_int {i j : Int} (h : (-(2 ^ 64) < i ∧ i < 2 ^ 64) ∨ (-(2 ^ 64) < j ∧ j < 2 ^ 64)) : oMul (.int i) (.int j) = some (.int (i * j)) := by
  show (if _ then _ else _) = _
  rw [if_pos h]
theorem oDiv_int {i j : Int} (h : 0 < j ∧ j < 1073741824) : oDiv (.int i) (.int j) = some (.int (i / j)) := by
  show (if _ then _ else _) = _
  rw [if_pos h]
theorem oMod_int {i j : Int} (h : 0 < j) : oMod (.int i) (.int j) = some (.int (i % j)) := by
  show (if _ then _ else _) = _
  rw [if_pos h]
theorem oIx_ix {xs : List D} {i : Int} {k : Nat} {d : D} (h : i = (k : Int)) (e : xs[k]? = some d) : atI xs i = some d := by rw [h, atI_ofNat, e]
theorem oPow_10_18 : oPow (.int 10) (.int 18) = some (.int 1000000000000000000) := rfl
@[simp] theorem oInt_int (i : Int) : oInt (.int i) = some (.int i) := rfl
@[simp] theorem oTuple_lst (xs : List D) : oTuple (.lst xs) = some (.tup xs) := rfl
@[simp] theorem oTuple_tup (xs : List D) : oTuple (.tup xs) = some (.tup xs) := rfl
@[simp] theorem oList_lst (xs : List D) : oList (.lst xs) = some xs := rfl
@[simp] theorem oList_tup (xs : List D) : oList (.tup xs) = some xs := rfl
@[simp] theorem oBl_bl (b : Bool) : oBl (.bl b) = some b := rfl
@[simp] theorem oNot_bl (b : Bool) : oNot (.bl b) = some (.bl (!b)) := rfl
@[simp] theorem oSlL_lst (xs : List D) (l u : Option Int) : oSlL (.lst xs) l u = some (cut xs l u) := rfl
@[simp] theorem oSlL_scr (xs : List Int) (l u : Option Int) : oSlL (.scr xs) l u = some ((cut xs l u).map .int) := rfl
@[simp] theorem oSlT_tup (xs : List D) (l u : Option Int) : oSlT (.tup xs) l u = some (.tup (cut xs l u)) := rfl
@[simp] theorem oSlR_tup (xs : List D) (l u : Option Int) : oSlR (.tup xs) l u = some (.tup (cut xs l u)) := rfl
@[simp] theorem oSlR_lst (xs : List D) (l u : Option Int) : oSlR (.lst xs) l u = some (.lst (cut xs l u)) := rfl
@[simp] theorem oI_int (i : Int) : oI (.int i) = some (some i) := rfl
@[simp] theorem oAttr_obj (f n : Str) (fs : List (Str × D)) : oAttr f (.obj n fs) = fs.lookup f := rfl
theorem mkL_ok {xs : List D} (h : xs.length ≤ 16777216) : mkL xs = some xs := if_pos h
theorem oAll_bls (bs : List Bool) : oAll (.lst (bs.map .bl)) = some (.bl (bs.all id)) := by simp [oAll]
theorem oRg1_nat {n : Nat} (h : (n : Int) < 2 ^ 62) : oRg1 (.int n) = some ((List.range n).map fun (i : Nat) => .int (i : Int)) := by
  have e : oRg1 (.int n) = if -(2 ^ 62) ≤ (n : Int) ∧ (n : Int) < 2 ^ 62 then some ((List.range (n : Int).toNat).map fun i => D.int (0 + (i : Nat))) else none := rfl
  rw [e, if_pos ⟨by omega, h⟩, Int.toNat_natCast]
  simp only [Int.zero_add]
theorem cInS_lst (z : Str) (ws : List Str) : cInS (.str z) (.lst (ws.map .str)) = some (decide (z ∈ ws)) := by
  simp only [cInS, strs_map, Option.map_some, Option.some.injEq]
  rw [Bool.eq_iff_iff, List.any_eq_true, decide_eq_true_iff]
  exact ⟨fun ⟨x, h1, h2⟩ => by rw [← beq_iff_eq.mp h2]; exact h1, fun h => ⟨z, h, by simp⟩⟩
theorem cInS_tup (z : Str) (ws : List Str) : cInS (.str z) (.tup (ws.map .str)) = some (decide (z ∈ ws)) := cInS_lst z ws
theorem look_map {α : Type} (key : α → List Key) (val : α → D) {xs : List α} {x : α} (hx : x ∈ xs) (nd : (xs.map key).Nodup) : look (xs.map fun y => (key y, val y)) (key x) = some (val x) := by
  unfold look
  induction xs with
  | nil => cases hx
  | cons y ys ih =>
    rw [List.map_cons, List.find?_cons]
    by_cases h : key y = key x
    · simp only [h, decide_true, Option.map_some]
      rcases List.mem_cons.mp hx with rfl | hx
      · rfl
      · rw [List.map_cons, List.nodup_cons] at nd
        exact absurd (by rw [h]; exact List.mem_map_of_mem hx) nd.1
    · simp only [h, decide_false]
      rcases List.mem_cons.mp hx with rfl | hx
      · exact absurd rfl h
      · exact ih hx (by rw [List.map_cons, List.nodup_cons] at nd; exact nd.2)
/-! ### words -/
abbrev ALPHA : Str := "abcdefghijklmnopqrstuvwxyz"
/-- small letters alone -/
def Low (w : Str) : Prop := ∀ c ∈ w.cps.toList, 97 ≤ c ∧ c ≤ 122
theorem Low.ok {w : Str} (h : Low w) : PyData.strOk w = true := by
  unfold PyData.strOk
  rw [Array.all_eq_true_iff_forall_mem]
  intro c hc
  have := h c (by simpa using hc)
  exact decide_eq_true (by omega)
theorem Low.app {a b : Str} (ha : Low a) (hb : Low b) : Low (a ++ b) := fun c hc => by
  have e : (a ++ b).cps.toList = a.cps.toList ++ b.cps.toList := by show (a.cps ++ b.cps).toList = _; simp
  rw [e] at hc
  rcases List.mem_append.mp hc with h | h
  · exact ha c h
  · exact hb c h
theorem len_app (a b : Str) : (a ++ b).length = a.length + b.length := by
  show (a.cps ++ b.cps).size = _
  simp [Str.length]
theorem oAdd_str {a b : Str} (h : a.length + b.length ≤ 16777216) : oAdd (.str a) (.str b) = some (.str (a ++ b)) := if_pos h
theorem alpha_at : ∀ k : Fin 26, ALPHA.cps.toList[k.val]? = some (97 + k.val) := by decide +kernel
theorem alpha_len : ALPHA.length ≤ 16777216 := by decide +kernel
theorem alpha_ix {i : Int} (h0 : 0 ≤ i) (h1 : i < 26) : oIx (.str ALPHA) (.int i) = some (.str ⟨#[97 + i.toNat]⟩) := by
  have e : oIx (.str ALPHA) (.int i) = if ALPHA.length ≤ 16777216 then (atI ALPHA.cps.toList i).map fun c => D.str ⟨#[c]⟩ else none := rfl
  rw [e, if_pos alpha_len, atI_int h0, alpha_at ⟨i.toNat, by omega⟩]
  rfl
theorem low1 {i : Nat} (h : i < 26) : Low ⟨#[97 + i]⟩ := fun c hc => by
  simp at hc
  omega
theorem len1 (c : Nat) : (⟨#[c]⟩ : Str).length = 1 := rfl
structure WordsOk (n : Nat) (ws : List Str) : Prop where
  nd : ws.Nodup
  ne : 1 ≤ ws.length
  le : ws.length ≤ n
  word : ∀ w ∈ ws, Low w ∧ 1 ≤ w.length ∧ w.length ≤ 8

/-! ### programs -/
abbrev dN (n : Nat) : D := .int (n : Int)
abbrev Tri := Str × Str × Nat
abbrev Ky := Nat × Str × Nat
structure Rul where
  st : Nat
  nm : Str
  pos : Nat
  tg : Nat
  src : List Nat
  outs : List Tri
abbrev Rul.key (r : Rul) : Ky := (r.st, r.nm, r.pos)
structure Prog where
  names : List Str
  chs : List (Str × List Str)
  sts : List Nat
  rules : List Rul
abbrev triD (t : Tri) : D := .tup [.str t.1, .str t.2.1, dN t.2.2]
abbrev chD (c : Str × List Str) : D := .tup [.str c.1, .tup (c.2.map .str)]
abbrev keyD (k : Ky) : D := .tup [dN k.1, .str k.2.1, dN k.2.2]
abbrev rulD (r : Rul) : D := .tup [dN r.st, .str r.nm, dN r.pos, dN r.tg, .tup (r.src.map dN), .tup (r.outs.map triD)]
def candN (k pos : Nat) : Nat := if pos % 2 = 1 then k else k + 1
def ksAt (names : List Str) (k : Nat) (s : Nat) : List Ky := names.flatMap fun nm => (List.range (2 * k + 1)).map fun p => (s, nm, p)
/-- the keys of the states from s on -/
def keysFrom (names : List Str) : Nat → List Nat → List Ky
  | _, [] => []
  | s, k :: r => ksAt names k s ++ keysFrom names (s + 1) r
abbrev keysOf (names : List Str) (sts : List Nat) : List Ky := keysFrom names 0 sts
structure SrcOk (cand many : Nat) (src : List Nat) : Prop where
  asc : src.Pairwise (· < ·)
  lt : ∀ s ∈ src, s < cand
  len : src.length = many
structure OutsOk (chs : List (Str × List Str)) (cand : Nat) (outs : List Tri) : Prop where
  le : outs.length ≤ 3
  ok : ∀ o ∈ outs, (∃ c ∈ chs, o.1 = c.1 ∧ o.2.1 ∈ c.2) ∧ o.2.2 < cand
structure RulOk (chs : List (Str × List Str)) (sts : List Nat) (r : Rul) : Prop where
  ex : ∃ k t, sts[r.st]? = some k ∧ sts[r.tg]? = some t ∧ r.pos < 2 * k + 1 ∧ SrcOk (candN k r.pos) t r.src ∧ OutsOk chs (candN k r.pos) r.outs
structure StsOk (sts : List Nat) : Prop where
  le : sts.length ≤ 10
  zero : sts[0]? = some 0
  four : ∀ k ∈ sts, k ≤ 4
structure ChsOk (chs : List (Str × List Str)) : Prop where
  names : WordsOk 2 (chs.map (·.1))
  signals : ∀ c ∈ chs, WordsOk 4 c.2
structure ProgOk (p : Prog) : Prop where
  names : WordsOk 4 p.names
  chs : ChsOk p.chs
  sts : StsOk p.sts
  keys : p.rules.map Rul.key = keysOf p.names p.sts
  rules : ∀ r ∈ p.rules, RulOk p.chs p.sts r
abbrev Prog.names' (p : Prog) : List D := p.names.map .str
abbrev Prog.chs' (p : Prog) : List D := p.chs.map chD
abbrev Prog.sts' (p : Prog) : List D := p.sts.map dN
abbrev Prog.rules' (p : Prog) : List D := p.rules.map rulD
/-- a row: a list or a tuple -/
def IsRow (c : D) (xs : List D) : Prop := c = .lst xs ∨ c = .tup xs
theorem IsRow.ix {c : D} {xs : List D} (h : IsRow c xs) (i : Int) : oIx c (.int i) = atI xs i := by rcases h with rfl | rfl <;> rfl
theorem IsRow.len {c : D} {xs : List D} (h : IsRow c xs) : oLen c = some (.int xs.length) := by rcases h with rfl | rfl <;> rfl
theorem IsRow.items {c : D} {xs : List D} (h : IsRow c xs) : oItems c = some xs := by rcases h with rfl | rfl <;> rfl
theorem IsRow.row {c : D} {xs : List D} (h : IsRow c xs) : rowOf c = some xs := by rcases h with rfl | rfl <;> rfl
theorem IsRow.tuple {c : D} {xs : List D} (h : IsRow c xs) : oTuple c = some (.tup xs) := by rcases h with rfl | rfl <;> rfl
theorem IsRow.list {c : D} {xs : List D} (h : IsRow c xs) : oList c = some xs := by rcases h with rfl | rfl <;> rfl
theorem at_map {α : Type} {f : α → D} {xs : List α} {i : Int} {k : Nat} {x : α} (hi : i = (k : Int)) (h : xs[k]? = some x) : atI (xs.map f) i = some (f x) := by
  rw [hi, atI_ofNat, List.getElem?_map, h]; rfl
/-- an index by a remainder is there -/
theorem at_mod {α : Type} {f : α → D} {xs : List α} (i : Int) (h : 0 < xs.length) : ∃ x ∈ xs, atI (xs.map f) (i % (xs.length : Int)) = some (f x) ∧ ∃ k : Nat, i % (xs.length : Int) = (k : Int) ∧ xs[k]? = some x := by
  have h0 : 0 ≤ i % (xs.length : Int) := Int.emod_nonneg _ (by omega)
  have h1 : i % (xs.length : Int) < xs.length := Int.emod_lt_of_pos _ (by omega)
  have hk : (i % (xs.length : Int)).toNat < xs.length := by omega
  have e : i % (xs.length : Int) = (((i % (xs.length : Int)).toNat : Nat) : Int) := by omega
  exact ⟨xs[(i % (xs.length : Int)).toNat], List.getElem_mem hk, at_map e (List.getElem?_eq_getElem hk), _, e, List.getElem?_eq_getElem hk⟩
theorem ksAt_len' {k s : Nat} (hk : k ≤ 4) : ∀ names : List Str, (ksAt names k s).length ≤ 9 * names.length
  | [] => by simp [ksAt]
  | a :: r => by
    have ih := ksAt_len' (k := k) (s := s) hk r
    unfold ksAt at ih ⊢
    rw [List.flatMap_cons, List.length_append, List.length_map, List.length_range, List.length_cons]
    omega
theorem ksAt_len {names : List Str} {k s : Nat} (h : names.length ≤ 4) (hk : k ≤ 4) : (ksAt names k s).length ≤ 36 := by
  have := ksAt_len' (s := s) hk names
  omega
theorem four_of {row : List Int} {j : Nat} (h : j + 4 ≤ row.length) (hr : ∀ x ∈ row, 0 ≤ x ∧ x < 840) : ∃ d0 d1 d2 d3 : Int, (row.drop j).take 4 = [d0, d1, d2, d3] ∧ 0 ≤ d0 ∧ 0 ≤ d1 ∧ 0 ≤ d2 ∧ 0 ≤ d3 := by
  have hl : ((row.drop j).take 4).length = 4 := by simp; omega
  have sub : ∀ x ∈ (row.drop j).take 4, 0 ≤ x := fun x hx => (hr x (List.mem_of_mem_drop (List.mem_of_mem_take hx))).1
  generalize (row.drop j).take 4 = l at hl sub
  match l, hl with
  | [d0, d1, d2, d3], _ => exact ⟨d0, d1, d2, d3, rfl, sub d0 (by simp), sub d1 (by simp), sub d2 (by simp), sub d3 (by simp)⟩
theorem keysFrom_len (names : List Str) : ∀ (sts : List Nat) (s : Nat), (keysFrom names s sts).length = names.length * (sts.map fun k => 2 * k + 1).sum
  | [], s => by simp [keysFrom]
  | k :: r, s => by
    have e : ∀ names : List Str, (ksAt names k s).length = names.length * (2 * k + 1) := fun names => by
      induction names with
      | nil => simp [ksAt]
      | cons a t ih =>
        unfold ksAt at ih ⊢
        rw [List.flatMap_cons, List.length_append, ih, List.length_map, List.length_range, List.length_cons, Nat.add_mul, Nat.one_mul, Nat.add_comm]
    simp only [keysFrom, List.length_append, keysFrom_len names r (s + 1), e, List.map_cons, List.sum_cons, Nat.mul_add]
theorem ksAt_mem {names : List Str} {k s : Nat} {key : Ky} (h : key ∈ ksAt names k s) : key.1 = s ∧ key.2.1 ∈ names ∧ key.2.2 < 2 * k + 1 := by
  unfold ksAt at h
  obtain ⟨nm, h1, h2⟩ := List.mem_flatMap.mp h
  obtain ⟨p, h3, rfl⟩ := List.mem_map.mp h2
  exact ⟨rfl, h1, by simpa using h3⟩
theorem keysFrom_mem {names : List Str} {key : Ky} : ∀ {sts : List Nat} {s : Nat}, key ∈ keysFrom names s sts → ∃ i k, key.1 = s + i ∧ sts[i]? = some k ∧ key.2.1 ∈ names ∧ key.2.2 < 2 * k + 1
  | k :: r, s, h => by
    rcases List.mem_append.mp (show key ∈ ksAt names k s ++ keysFrom names (s + 1) r from h) with h | h
    · obtain ⟨h1, h2, h3⟩ := ksAt_mem h
      exact ⟨0, k, h1, rfl, h2, h3⟩
    · obtain ⟨i, k', h1, h2, h3, h4⟩ := keysFrom_mem h
      exact ⟨i + 1, k', by omega, h2, h3, h4⟩
/-- the states that keep at most so many -/
abbrev fits (sts : List Nat) (cand : Nat) : List Nat := (List.range sts.length).filter fun j => decide (sts.getD j 0 ≤ cand)
theorem fits_pos {sts : List Nat} (h : StsOk sts) (cand : Nat) : 0 < (fits sts cand).length := by
  have h0 : 0 < sts.length := (List.getElem?_eq_some_iff.mp h.zero).1
  have : 0 ∈ fits sts cand := by
    refine List.mem_filter.mpr ⟨by simpa using h0, ?_⟩
    have := h.zero
    simp only [List.getD, this, Option.getD_some]
    exact decide_eq_true (Nat.zero_le _)
  exact List.length_pos_of_mem this
theorem fits_mem {sts : List Nat} {cand j : Nat} (h : j ∈ fits sts cand) : ∃ t, sts[j]? = some t ∧ t ≤ cand := by
  obtain ⟨h1, h2⟩ := List.mem_filter.mp h
  have hj : j < sts.length := by simpa using h1
  refine ⟨sts[j], List.getElem?_eq_getElem hj, ?_⟩
  have h2 := of_decide_eq_true h2
  simpa [List.getD, List.getElem?_eq_getElem hj] using h2
theorem cand_int (k p : Nat) : (k : Int) + 1 - (p : Int) % 2 = ((candN k p : Nat) : Int) := by
  unfold candN
  split <;> omega
theorem cand_pos {k p : Nat} (h : p < 2 * k + 1) : 0 < candN k p := by
  unfold candN
  split <;> omega
theorem cand_le {k p : Nat} (h : k ≤ 4) : candN k p ≤ 5 := by
  unfold candN
  split <;> omega
theorem isB1_lst (xs : List D) (n : String) (b : Bool) (h : kitB "list" n = some b) : isB1 n (.lst xs) = some b := h
theorem isRow_lst (xs : List D) : isBs ["list", "tuple"] (.lst xs) = some true := by
  show (isB1 "list" (.lst xs)).bind _ = _
  rw [isB1_lst xs "list" true (by decide +kernel)]; rfl
theorem isRow_tup (xs : List D) : isBs ["list", "tuple"] (.tup xs) = some true := by
  show (isB1 "list" (.tup xs)).bind _ = _
  have h1 : isB1 "list" (.tup xs) = some false := show kitB "tuple" "list" = some false by decide +kernel
  have h2 : isB1 "tuple" (.tup xs) = some true := show kitB "tuple" "tuple" = some true by decide +kernel
  rw [h1]
  show (isB1 "tuple" (.tup xs)).bind _ = _
  rw [h2]; rfl
theorem isInt_int (i : Int) : isB1 "int" (.int i) = some true := show kitB "int" "int" = some true by decide +kernel
theorem isBool_int (i : Int) : isB1 "bool" (.int i) = some false := show kitB "int" "bool" = some false by decide +kernel
theorem isStr_str (x : Str) : isB1 "str" (.str x) = some true := show kitB "str" "str" = some true by decide +kernel
theorem isTuple_tup (xs : List D) : isB1 "tuple" (.tup xs) = some true := show kitB "tuple" "tuple" = some true by decide +kernel
theorem isList_lst (xs : List D) : isB1 "list" (.lst xs) = some true := show kitB "list" "list" = some true by decide +kernel
theorem cInC_low {c : Nat} (h : 97 ≤ c ∧ c ≤ 122) : cInC (.str ⟨#[c]⟩) (.str ALPHA) = some true := by
  have e : ∀ k : Fin 26, (97 + k.val) ∈ ALPHA.cps.toList := by decide +kernel
  have e2 := e ⟨c - 97, by omega⟩
  show some (decide (c ∈ ALPHA.cps.toList)) = _
  rw [decide_eq_true]
  have : 97 + (c - 97) = c := by omega
  simpa [this] using e2
theorem zip2_map {α β : Type} (f : α → D) (g : β → D) : ∀ (xs : List α) (ys : List β), zip2 (xs.map f) (ys.map g) = (xs.zip ys).map fun p => .tup [f p.1, g p.2]
  | [], _ => by simp [zip2]
  | _ :: _, [] => by simp [zip2]
  | x :: xs, y :: ys => by simp [zip2, zip2_map f g xs ys]
theorem asc_zip {α : Type} {r : α → α → Prop} : ∀ {xs : List α}, xs.Pairwise r → ∀ p ∈ xs.zip (xs.drop 1), r p.1 p.2
  | [], _, p, hp => by simp at hp
  | [x], _, p, hp => by simp at hp
  | x :: y :: r', h, p, hp => by
    rw [List.drop_succ_cons, List.drop_zero, List.zip_cons_cons] at hp
    rcases List.mem_cons.mp hp with rfl | hp
    · exact (List.pairwise_cons.mp h).1 _ List.mem_cons_self
    · exact asc_zip (List.pairwise_cons.mp h).2 p (by simpa using hp)
theorem dcnt_nodup {ws : List Str} (h : ws.Nodup) : ∀ i, i ≤ ws.length → dcnt ws i = i
  | 0, _ => rfl
  | i + 1, hi => by
    unfold dcnt
    have ih := dcnt_nodup h i (by omega)
    have hn : ¬ (ws.take i).any (· == ws.getD i Str.empty) = true := by
      intro hc
      obtain ⟨x, hx, he⟩ := List.any_eq_true.mp hc
      have he := beq_iff_eq.mp he
      have hii : i < ws.length := by omega
      rw [show ws.getD i Str.empty = ws[i] by simp [List.getD, List.getElem?_eq_getElem hii]] at he
      obtain ⟨j, hj, ej⟩ := List.mem_iff_getElem.mp hx
      rw [List.getElem_take] at ej
      have hj' : j < i := by simp at hj; omega
      exact (List.pairwise_iff_getElem.mp h) j i (by omega) hii hj' (ej.trans he)
    rw [if_neg hn, ih]
theorem lenSet_ok {c : D} {ws : List Str} (hc : IsRow c (ws.map .str)) (h : ws.Nodup) (hl : ws.length < 4000) : oLenSet c = some (.int ws.length) := by
  have e : oStrs c = some ws := by rcases hc with rfl | rfl <;> simp [oStrs, oSeq]
  unfold oLenSet
  rw [e]
  simp only [Option.bind_some, hl, if_true, dcnt_nodup h _ (Nat.le_refl _)]
theorem all_true {α : Type} (xs : List α) : oAll (.lst (xs.map fun _ => D.bl true)) = some (.bl true) := by
  rw [show (xs.map fun _ => D.bl true) = (xs.map fun _ => true).map D.bl by simp, oAll_bls]
  simp
def keyK (k : Ky) : List Key := [Sum.inl (k.1 : Int), Sum.inr k.2.1, Sum.inl (k.2.2 : Int)]
theorem keyK_inj {a b : Ky} (h : keyK a = keyK b) : a = b := by
  unfold keyK at h
  obtain ⟨a1, a2, a3⟩ := a
  obtain ⟨b1, b2, b3⟩ := b
  simp only [List.cons.injEq, Sum.inl.injEq, Sum.inr.injEq, and_true] at h
  obtain ⟨h1, h2, h3⟩ := h
  rw [h2, show a1 = b1 by omega, show a3 = b3 by omega]
theorem keyD_key (k : Ky) : keys? [dN k.1, .str k.2.1, dN k.2.2] = some (keyK k) := rfl
theorem ksAt_nodup {names : List Str} (hn : names.Nodup) (k s : Nat) : (ksAt names k s).Nodup := by
  unfold ksAt
  induction names with
  | nil => simp
  | cons a r ih =>
    rw [List.flatMap_cons, List.nodup_append]
    rw [List.nodup_cons] at hn
    refine ⟨?_, ih hn.2, ?_⟩
    · rw [List.nodup_iff_pairwise_ne, List.pairwise_map]
      exact List.pairwise_lt_range.imp fun h e => by simp only [Prod.mk.injEq, true_and] at e; omega
    · intro x hx y hy e
      obtain ⟨p, _, rfl⟩ := List.mem_map.mp hx
      obtain ⟨nm, h1, h2⟩ := List.mem_flatMap.mp hy
      obtain ⟨q, _, rfl⟩ := List.mem_map.mp h2
      simp only [Prod.mk.injEq, true_and] at e
      exact hn.1 (e.1 ▸ h1)
theorem keysFrom_nodup {names : List Str} (hn : names.Nodup) : ∀ (sts : List Nat) (s : Nat), (keysFrom names s sts).Nodup
  | [], s => by simp [keysFrom]
  | k :: r, s => by
    show (ksAt names k s ++ keysFrom names (s + 1) r).Nodup
    rw [List.nodup_append]
    refine ⟨ksAt_nodup hn k s, keysFrom_nodup hn r (s + 1), fun x hx y hy e => ?_⟩
    have h1 := (ksAt_mem hx).1
    obtain ⟨i, k', h2, _⟩ := keysFrom_mem hy
    rw [← e] at h2
    omega
/-- an instance whose attributes tell of the parts -/
structure Fields (fs : List (Str × D)) (names : List Str) (chs : List (Str × List Str)) (sts : List Nat) : Prop where
  names : fs.lookup ("names" : Str) = some (.tup (names.map .str))
  chs : fs.lookup ("channels" : Str) = some (.tup (chs.map chD))
  sts : fs.lookup ("states" : Str) = some (.tup (sts.map dN))
theorem enumD_map {α : Type} (f : α → D) : ∀ (k : Nat) (xs : List α), enumD k (xs.map f) = (xs.zipIdx k).map fun p => .tup [.int (p.2 : Nat), f p.1]
  | _, [] => rfl
  | k, x :: xs => by simp [enumD, enumD_map f (k + 1) xs]
theorem lcN_flat {α : Type} (c : α → D) {gt : D → Env → Option Env} {fin : Env → Option (List D)} {ρ : Env} {f : α → List D} : ∀ {xs : List α}, (∀ x ∈ xs, ((gt (c x) ρ).bind fun ρ1 => fin ρ1) = some (f x)) → lcN gt bYes fin ρ (xs.map c) = some (xs.flatMap f)
  | [], _ => rfl
  | x :: xs, h => by
    have h1 := h x List.mem_cons_self
    have ih := lcN_flat c (f := f) fun y hy => h y (List.mem_cons_of_mem _ hy)
    obtain ⟨ρ1, e1, e2⟩ := Option.bind_eq_some_iff.mp h1
    rw [List.map_cons]
    unfold lcN
    rw [e1, ih]
    simp only [Option.bind_some, calm, if_true, e2, Option.map_some, List.flatMap_cons]
theorem look_table {rules : List Rul} (nd : (rules.map Rul.key).Nodup) {r : Rul} (h : r ∈ rules) : look (rules.map fun r => (keyK r.key, rulD r)) (keyK r.key) = some (rulD r) := by
  refine look_map (fun r => keyK r.key) rulD h ?_
  rw [show (fun r : Rul => keyK r.key) = keyK ∘ Rul.key from rfl, ← List.map_map]
  exact (List.nodup_iff_pairwise_ne.mpr (List.pairwise_map.mpr ((List.nodup_iff_pairwise_ne.mp nd).imp fun h e => h (keyK_inj e))))
theorem look_none {rules : List Rul} {k : Ky} (h : k ∉ rules.map Rul.key) : look (rules.map fun r => (keyK r.key, rulD r)) (keyK k) = none := by
  unfold look
  rw [Option.map_eq_none_iff, List.find?_eq_none]
  intro x hx
  obtain ⟨r, hr, rfl⟩ := List.mem_map.mp hx
  simp only [decide_eq_true_eq]
  intro e
  exact h (List.mem_map.mpr ⟨r, hr, keyK_inj e⟩)
theorem cInD_tup (k0 : D) (ks : List D) (kvs : List (List Key × D)) : cInD (.tup (k0 :: ks)) (.dct kvs) = (keys? (k0 :: ks)).map fun k => (look kvs k).isSome := rfl
theorem oGet_tup (k0 : D) (ks : List D) (kvs : List (List Key × D)) : oGet (.dct kvs) (.tup (k0 :: ks)) = (keys? (k0 :: ks)).bind (look kvs) := rfl
theorem bq_names_channels : (Str.ofString "names" == Str.ofString "channels") = false := by decide +kernel
theorem ne_names_channels : (Str.ofString "names" = Str.ofString "channels") = False := eq_false (by decide +kernel)
theorem bq_names_states : (Str.ofString "names" == Str.ofString "states") = false := by decide +kernel
theorem ne_names_states : (Str.ofString "names" = Str.ofString "states") = False := eq_false (by decide +kernel)
theorem bq_names_table : (Str.ofString "names" == Str.ofString "table") = false := by decide +kernel
theorem ne_names_table : (Str.ofString "names" = Str.ofString "table") = False := eq_false (by decide +kernel)
theorem bq_names_rules : (Str.ofString "names" == Str.ofString "rules") = false := by decide +kernel
theorem ne_names_rules : (Str.ofString "names" = Str.ofString "rules") = False := eq_false (by decide +kernel)
theorem bq_channels_names : (Str.ofString "channels" == Str.ofString "names") = false := by decide +kernel
theorem ne_channels_names : (Str.ofString "channels" = Str.ofString "names") = False := eq_false (by decide +kernel)
theorem bq_channels_states : (Str.ofString "channels" == Str.ofString "states") = false := by decide +kernel
theorem ne_channels_states : (Str.ofString "channels" = Str.ofString "states") = False := eq_false (by decide +kernel)
theorem bq_channels_table : (Str.ofString "channels" == Str.ofString "table") = false := by decide +kernel
theorem ne_channels_table : (Str.ofString "channels" = Str.ofString "table") = False := eq_false (by decide +kernel)
theorem bq_channels_rules : (Str.ofString "channels" == Str.ofString "rules") = false := by decide +kernel
theorem ne_channels_rules : (Str.ofString "channels" = Str.ofString "rules") = False := eq_false (by decide +kernel)
theorem bq_states_names : (Str.ofString "states" == Str.ofString "names") = false := by decide +kernel
theorem ne_states_names : (Str.ofString "states" = Str.ofString "names") = False := eq_false (by decide +kernel)
theorem bq_states_channels : (Str.ofString "states" == Str.ofString "channels") = false := by decide +kernel
theorem ne_states_channels : (Str.ofString "states" = Str.ofString "channels") = False := eq_false (by decide +kernel)
theorem bq_states_table : (Str.ofString "states" == Str.ofString "table") = false := by decide +kernel
theorem ne_states_table : (Str.ofString "states" = Str.ofString "table") = False := eq_false (by decide +kernel)
theorem bq_states_rules : (Str.ofString "states" == Str.ofString "rules") = false := by decide +kernel
theorem ne_states_rules : (Str.ofString "states" = Str.ofString "rules") = False := eq_false (by decide +kernel)
theorem bq_table_names : (Str.ofString "table" == Str.ofString "names") = false := by decide +kernel
theorem ne_table_names : (Str.ofString "table" = Str.ofString "names") = False := eq_false (by decide +kernel)
theorem bq_table_channels : (Str.ofString "table" == Str.ofString "channels") = false := by decide +kernel
theorem ne_table_channels : (Str.ofString "table" = Str.ofString "channels") = False := eq_false (by decide +kernel)
theorem bq_table_states : (Str.ofString "table" == Str.ofString "states") = false := by decide +kernel
theorem ne_table_states : (Str.ofString "table" = Str.ofString "states") = False := eq_false (by decide +kernel)
theorem bq_table_rules : (Str.ofString "table" == Str.ofString "rules") = false := by decide +kernel
theorem ne_table_rules : (Str.ofString "table" = Str.ofString "rules") = False := eq_false (by decide +kernel)
theorem bq_rules_names : (Str.ofString "rules" == Str.ofString "names") = false := by decide +kernel
theorem ne_rules_names : (Str.ofString "rules" = Str.ofString "names") = False := eq_false (by decide +kernel)
theorem bq_rules_channels : (Str.ofString "rules" == Str.ofString "channels") = false := by decide +kernel
theorem ne_rules_channels : (Str.ofString "rules" = Str.ofString "channels") = False := eq_false (by decide +kernel)
theorem bq_rules_states : (Str.ofString "rules" == Str.ofString "states") = false := by decide +kernel
theorem ne_rules_states : (Str.ofString "rules" = Str.ofString "states") = False := eq_false (by decide +kernel)
theorem bq_rules_table : (Str.ofString "rules" == Str.ofString "table") = false := by decide +kernel
theorem ne_rules_table : (Str.ofString "rules" = Str.ofString "table") = False := eq_false (by decide +kernel)
def progFields (p : Prog) (rs : List Rul) : List (Str × D) := [("names", .tup (p.names.map .str)), ("channels", .tup (p.chs.map chD)), ("states", .tup (p.sts.map dN)), ("table", .dct (rs.map fun r => (keyK r.key, rulD r))), ("rules", .tup (p.rules.map rulD))]
def progD (p : Prog) (rs : List Rul) : D := .obj "Program" (progFields p rs)
theorem fields1 (names : List Str) (chs : List (Str × List Str)) (sts : List Nat) : Fields [("names", .tup (names.map .str)), ("channels", .tup (chs.map chD)), ("states", .tup (sts.map dN))] names chs sts :=
  ⟨by simp only [List.lookup_cons, beq_self_eq_true], by simp only [List.lookup_cons, beq_self_eq_true, bq_channels_names], by simp only [List.lookup_cons, beq_self_eq_true, bq_states_names, bq_states_channels]⟩
theorem fields2 (names : List Str) (chs : List (Str × List Str)) (sts : List Nat) (x : D) : Fields [("names", .tup (names.map .str)), ("channels", .tup (chs.map chD)), ("states", .tup (sts.map dN)), ("table", x)] names chs sts :=
  ⟨by simp only [List.lookup_cons, beq_self_eq_true], by simp only [List.lookup_cons, beq_self_eq_true, bq_channels_names], by simp only [List.lookup_cons, beq_self_eq_true, bq_states_names, bq_states_channels]⟩
theorem fieldsP (p : Prog) (rs : List Rul) : Fields (progFields p rs) p.names p.chs p.sts :=
  ⟨by simp only [progFields, List.lookup_cons, beq_self_eq_true], by simp only [progFields, List.lookup_cons, beq_self_eq_true, bq_channels_names], by simp only [progFields, List.lookup_cons, beq_self_eq_true, bq_states_names, bq_states_channels]⟩
theorem tableP (p : Prog) (rs : List Rul) : (progFields p rs).lookup ("table" : Str) = some (.dct (rs.map fun r => (keyK r.key, rulD r))) := by
  simp only [progFields, List.lookup_cons, beq_self_eq_true, bq_table_names, bq_table_channels, bq_table_states]
theorem rulesP (p : Prog) (rs : List Rul) : (progFields p rs).lookup ("rules" : Str) = some (.tup (p.rules.map rulD)) := by
  simp only [progFields, List.lookup_cons, beq_self_eq_true, bq_rules_names, bq_rules_channels, bq_rules_states, bq_rules_table]
theorem put1 (x y : D) : putD "channels" y [("names", x)] = ([("names", x), ("channels", y)] : List (Str × D)) := by simp only [putD, ne_names_channels, if_false]
theorem put2 (x y z : D) : putD "states" z [("names", x), ("channels", y)] = ([("names", x), ("channels", y), ("states", z)] : List (Str × D)) := by simp only [putD, ne_names_states, ne_channels_states, if_false]
theorem put3 (x y z w : D) : putD "table" w [("names", x), ("channels", y), ("states", z)] = ([("names", x), ("channels", y), ("states", z), ("table", w)] : List (Str × D)) := by simp only [putD, ne_names_table, ne_channels_table, ne_states_table, if_false]
theorem put4 (x y z w v : D) : putD "rules" v [("names", x), ("channels", y), ("states", z), ("table", w)] = ([("names", x), ("channels", y), ("states", z), ("table", w), ("rules", v)] : List (Str × D)) := by simp only [putD, ne_names_rules, ne_channels_rules, ne_states_rules, ne_table_rules, if_false]
theorem noObjs_map {α : Type} (f : α → D) : ∀ {xs : List α}, (∀ x ∈ xs, noObj (f x) = true) → noObjs (xs.map f) = true
  | [], _ => rfl
  | x :: xs, h => by
    rw [List.map_cons]
    simp only [noObjs, h x List.mem_cons_self, noObjs_map f fun y hy => h y (List.mem_cons_of_mem _ hy), Bool.and_self]
theorem noObj_rul (r : Rul) : noObj (rulD r) = true := by
  simp only [rulD, noObj, noObjs, noObjs_map dN (xs := r.src) fun _ _ => rfl, noObjs_map triD (xs := r.outs) fun _ _ => rfl, Bool.and_self, Bool.and_true]
theorem noObjK_map {α : Type} (k : α → List Key) (f : α → D) : ∀ {xs : List α}, (∀ x ∈ xs, noObj (f x) = true) → noObjK (xs.map fun x => (k x, f x)) = true
  | [], _ => rfl
  | x :: xs, h => by
    rw [List.map_cons]
    simp only [noObjK, h x List.mem_cons_self, noObjK_map k f fun y hy => h y (List.mem_cons_of_mem _ hy), Bool.and_self]

/-! ### one step -/
@[simp] theorem oAug_int (i j : Int) : oAug (.int i) (.int j) = some (.int (i + j)) := rfl
@[simp] theorem oSlR_scr (xs : List Int) (l u : Option Int) : oSlR (.scr xs) l u = some (.lst ((cut xs l u).map .int)) := rfl
def posN (n : Int) (kept : List Int) : Nat := 2 * (kept.filter fun v => decide (v < n)).length + (kept.filter fun v => v == n).length
/-- the candidates -/
def cands (n : Int) (kept : List Int) : List Int := (kept.filter fun v => decide (v < n)) ++ n :: (kept.filter fun v => decide (n < v))
theorem asc_split {n : Int} : ∀ {kept : List Int}, kept.Pairwise (· < ·) → kept = (kept.filter fun v => decide (v < n)) ++ ((kept.filter fun v => v == n) ++ (kept.filter fun v => decide (n < v)))
  | [], _ => rfl
  | v :: r, h => by
    obtain ⟨h1, h2⟩ := List.pairwise_cons.mp h
    have ih := asc_split (n := n) h2
    rcases Int.lt_trichotomy v n with hv | hv | hv
    · rw [List.filter_cons_of_pos (by simpa using hv), List.filter_cons_of_neg (by simp; omega), List.filter_cons_of_neg (by simp; omega), List.cons_append, ← ih]
    · have e1 : r.filter (fun x => decide (x < n)) = [] := List.filter_eq_nil_iff.mpr fun x hx => by have := h1 x hx; simp; omega
      rw [List.filter_cons_of_neg (by simp; omega), List.filter_cons_of_pos (by simpa using hv), List.filter_cons_of_neg (by simp; omega)]
      rw [e1, List.nil_append] at ih ⊢
      rw [List.cons_append, ← ih]
    · have e1 : r.filter (fun x => decide (x < n)) = [] := List.filter_eq_nil_iff.mpr fun x hx => by have := h1 x hx; simp; omega
      have e2 : r.filter (fun x => x == n) = [] := List.filter_eq_nil_iff.mpr fun x hx => by have := h1 x hx; simp; omega
      rw [List.filter_cons_of_neg (by simp; omega), List.filter_cons_of_neg (by simp; omega), List.filter_cons_of_pos (by simpa using hv)]
      rw [e1, e2, List.nil_append, List.nil_append] at ih ⊢
      rw [← ih]
theorem asc_eq {n : Int} : ∀ {kept : List Int}, kept.Pairwise (· < ·) → (kept.filter fun v => v == n) = [] ∨ (kept.filter fun v => v == n) = [n]
  | [], _ => .inl rfl
  | v :: r, h => by
    obtain ⟨h1, h2⟩ := List.pairwise_cons.mp h
    by_cases hv : v = n
    · subst hv
      have e2 : r.filter (fun x => x == v) = [] := List.filter_eq_nil_iff.mpr fun x hx => by have := h1 x hx; simp; omega
      exact .inr (by rw [List.filter_cons_of_pos (by simp), e2])
    · rw [List.filter_cons_of_neg (by simpa using hv)]
      exact asc_eq h2
theorem cands_asc {n : Int} {kept : List Int} (h : kept.Pairwise (· < ·)) : (cands n kept).Pairwise (· < ·) := by
  unfold cands
  rw [List.pairwise_append]
  refine ⟨h.filter _, List.pairwise_cons.mpr ⟨fun x hx => ?_, h.filter _⟩, fun x hx y hy => ?_⟩
  · exact of_decide_eq_true (List.mem_filter.mp hx).2
  · have h1 := of_decide_eq_true (List.mem_filter.mp hx).2
    rcases List.mem_cons.mp hy with rfl | hy
    · exact h1
    · have h2 := of_decide_eq_true (List.mem_filter.mp hy).2
      omega
/-- the position tells whether the integer is kept, and what the candidates are -/
theorem cands_odd {n : Int} {kept : List Int} (h : kept.Pairwise (· < ·)) (ho : posN n kept % 2 = 1) : cands n kept = kept := by
  unfold posN at ho
  rcases asc_eq (n := n) h with e | e
  · rw [e] at ho; simp at ho
  · have := asc_split (n := n) h
    rw [e] at this
    exact this.symm
theorem cands_even {n : Int} {kept : List Int} (h : kept.Pairwise (· < ·)) (ho : posN n kept % 2 = 0) : cands n kept = kept.take (posN n kept / 2) ++ [n] ++ kept.drop (posN n kept / 2) ∧ posN n kept / 2 ≤ kept.length := by
  have hs := asc_split (n := n) h
  rcases asc_eq (n := n) h with e | e
  · have hp : posN n kept / 2 = (kept.filter fun v => decide (v < n)).length := by unfold posN; rw [e]; simp
    rw [e, List.nil_append] at hs
    refine ⟨?_, ?_⟩
    · rw [hp]
      conv => rhs; rw [show kept.take (kept.filter fun v => decide (v < n)).length = kept.filter fun v => decide (v < n) by
        conv => lhs; arg 2; rw [hs]
        exact List.take_left' rfl]
      rw [show kept.drop (kept.filter fun v => decide (v < n)).length = kept.filter fun v => decide (n < v) by
        conv => lhs; arg 2; rw [hs]
        exact List.drop_left' rfl]
      unfold cands
      simp
    · rw [hp]; exact List.length_filter_le _ _
  · unfold posN at ho; rw [e] at ho; simp at ho
theorem cands_len {n : Int} {kept : List Int} (h : kept.Pairwise (· < ·)) : (cands n kept).length = candN kept.length (posN n kept) := by
  unfold candN
  split
  · rename_i ho; rw [cands_odd h ho]
  · rename_i ho
    obtain ⟨e, hl⟩ := cands_even (n := n) h (by omega)
    rw [e]
    simp
    omega
theorem posN_le {n : Int} {kept : List Int} (h : kept.Pairwise (· < ·)) : posN n kept < 2 * kept.length + 1 := by
  have hs := congrArg List.length (asc_split (n := n) h)
  rw [List.length_append, List.length_append] at hs
  unfold posN
  rcases asc_eq (n := n) h with e | e
  · simp only [e, List.length_nil] at hs ⊢; omega
  · simp only [e, List.length_cons, List.length_nil] at hs ⊢; omega
theorem posN_fold (n : Int) : ∀ (kept : List Int) (a : Int), kept.foldl (fun p v => if v < n then p + 2 else if n = v then p + 1 else p) a = a + (posN n kept : Int)
  | [], a => by simp [posN]
  | v :: r, a => by
    rw [List.foldl_cons, posN_fold n r]
    unfold posN
    rcases Int.lt_trichotomy v n with hv | hv | hv
    · rw [if_pos hv, List.filter_cons_of_pos (by simpa using hv), List.filter_cons_of_neg (by simp; omega), List.length_cons]
      omega
    · rw [if_neg (by omega), if_pos hv.symm, List.filter_cons_of_neg (by simp; omega), List.filter_cons_of_pos (by simpa using hv), List.length_cons]
      omega
    · rw [if_neg (by omega), if_neg (by omega), List.filter_cons_of_neg (by simp; omega), List.filter_cons_of_neg (by simp; omega)]
abbrev Plc := Nat × List Int
abbrev Out3 := Str × Str × Int
abbrev placeD (c : Plc) : D := .tup [dN c.1, .tup (c.2.map .int)]
abbrev outD (o : Out3) : D := .tup [.str o.1, .str o.2.1, .int o.2.2]
abbrev msgD (m : Str × Int) : D := .tup [.str m.1, .int m.2]
structure PlaceOk (sts : List Nat) (c : Plc) : Prop where
  st : sts[c.1]? = some c.2.length
  asc : c.2.Pairwise (· < ·)
def keepOf (r : Rul) (cs : List Int) : List Int := r.src.map fun i => cs.getD i 0
def outsOf (r : Rul) (cs : List Int) : List Out3 := r.outs.map fun t => (t.1, t.2.1, cs.getD t.2.2 0)
theorem pairwise_getD {cs : List Int} (h : cs.Pairwise (· < ·)) {i j : Nat} (hij : i < j) (hj : j < cs.length) : cs.getD i 0 < cs.getD j 0 := by
  have hi : i < cs.length := by omega
  simp only [List.getD, List.getElem?_eq_getElem hi, List.getElem?_eq_getElem hj, Option.getD_some]
  exact (List.pairwise_iff_getElem.mp h) i j hi hj hij
theorem keep_ok {sts : List Nat} {r : Rul} {cs : List Int} {t : Nat} (ht : sts[r.tg]? = some t) (hs : SrcOk cs.length t r.src) (hc : cs.Pairwise (· < ·)) : PlaceOk sts (r.tg, keepOf r cs) := by
  refine ⟨by rw [ht]; show some t = some (keepOf r cs).length; rw [keepOf, List.length_map, hs.len], ?_⟩
  show (keepOf r cs).Pairwise (· < ·)
  rw [keepOf, List.pairwise_map]
  exact hs.asc.imp_of_mem fun ha hb hab => pairwise_getD hc hab (hs.lt _ hb)
theorem rule_there {p : Prog} (hp : ProgOk p) {c : Plc} (hc : PlaceOk p.sts c) {nm : Str} (hn : nm ∈ p.names) (n : Int) : ∃ r ∈ p.rules, r.key = (c.1, nm, posN n c.2) := by
  have hm : (c.1, nm, posN n c.2) ∈ keysOf p.names p.sts := by
    have key : ∀ (sts : List Nat) (s i k : Nat), sts[i]? = some k → posN n c.2 < 2 * k + 1 → (s + i, nm, posN n c.2) ∈ keysFrom p.names s sts := by
      intro sts
      induction sts with
      | nil => intro s i k h _; simp at h
      | cons a r ih =>
        intro s i k h hk
        cases i with
        | zero =>
          simp at h
          subst h
          exact List.mem_append_left _ (List.mem_flatMap.mpr ⟨nm, hn, List.mem_map.mpr ⟨_, by simpa using hk, rfl⟩⟩)
        | succ i =>
          have := ih (s + 1) i k (by simpa using h) hk
          rw [show s + (i + 1) = s + 1 + i by omega]
          exact List.mem_append_right _ this
    have := key p.sts 0 c.1 _ hc.st (posN_le hc.asc)
    rw [Nat.zero_add] at this
    exact this
  rw [← hp.keys] at hm
  obtain ⟨r, hr, e⟩ := List.mem_map.mp hm
  exact ⟨r, hr, e⟩
theorem getD_at {cs : List Int} {i : Nat} (h : i < cs.length) : cs[i]? = some (cs.getD i 0) := by
  simp [List.getD, List.getElem?_eq_getElem h]
theorem oSorted_ints (ns : List Int) : oSorted (.lst (ns.map .int)) = if ns.length < 64 then some ((sortI ns).map .int) else none := by
  show (ints? (ns.map D.int)).bind _ = _
  rw [ints_map]; rfl
/-- a drawn plan -/
def planD (p : Prog) : List D := [.tup (p.names.map .str), .tup (p.chs.map chD), .tup (p.sts.map dN), .tup (p.rules.map rulD)]
theorem sorted_cands {n : Int} {kept : List Int} (h : kept.Pairwise (· < ·)) (hl : kept.length ≤ 60) : oSorted (.lst ((kept ++ (if posN n kept % 2 = 0 then [n] else [])).map .int)) = some ((cands n kept).map .int) := by
  rw [oSorted_ints, if_pos (by split <;> simp <;> omega)]
  have hp : (kept ++ (if posN n kept % 2 = 0 then [n] else [])).Perm (cands n kept) := by
    split
    · rename_i ho
      rw [(cands_even h ho).1]
      have := List.take_append_drop (posN n kept / 2) kept
      conv => lhs; arg 1; rw [← this]
      rw [List.append_assoc, List.append_assoc]
      exact List.Perm.append_left _ List.perm_append_comm
    · rename_i ho
      rw [cands_odd h (by omega), List.append_nil]
  have hs := sorted_uniq ((sortI_perm _).trans hp) (sortI_sorted _) ((cands_asc (n := n) h).imp fun hab => Int.le_of_lt hab)
  rw [hs]
theorem find_rule {p : Prog} (hp : ProgOk p) {r : Rul} (hr : r ∈ p.rules) : p.rules.find? (fun x => x.key == r.key) = some r := by
  have nd : (p.rules.map Rul.key).Nodup := by rw [hp.keys]; exact keysFrom_nodup hp.names.nd _ _
  generalize p.rules = rules at hr nd
  induction rules with
  | nil => cases hr
  | cons x l ih =>
    rw [List.map_cons, List.nodup_cons] at nd
    rcases List.mem_cons.mp hr with e | hr'
    · rw [e]; simp [List.find?]
    · have : (x.key == r.key) = false := by
        rw [beq_eq_false_iff_ne]
        intro e
        exact nd.1 (e ▸ List.mem_map_of_mem hr')
      rw [List.find?, this]
      exact ih hr' nd.2
end DL
namespace K22
open PySem PySem.Spec PyProof.Rows L2 DL
local macro_rules | `(tactic| walk_at "mir") => `(tactic| try simp (implicitDefEqProofs := false) only [runD, startE, endO, List.map_cons, List.map_nil, List.length_cons, List.length_nil, Nat.sub_self, Nat.reduceAdd, Nat.reduceSub, Nat.reduceMul, List.replicate, List.cons_append, List.nil_append, if_pos, R.bind_ok, R.of_some, R.map_ok, Option.bind_some, Option.map_some, withR_ok, seqO_nx, seqO_rt, List.set_cons_zero, List.set_cons_succ, List.getElem?_cons_zero, List.getElem?_cons_succ,
  eC, eOp, lOp, eCmp, bCmp, eNotInD, eUn, lUn, eIsi, eIsi2, eIf, eAnd, eOr, bAnd, bOr, bNot, bVal, eChain, bChain, pNone, pSome, lSl, eSlT, eSlR, aNil, aCons, eTup, lLst, eFz, eAttr, eCall, lCall, lLc, bYes, gsNil, gsCons, gT, iSeq, iR1, iR2, iZip2, iEnm, sNx, sSeq, sSet, sSetF, sSetFz, sAsg, sExpr, sRet, sRetF, sRetOwn, sRetN, sIf, sApp, sIns, sAug, sFor, sFrz, sFldM, sSetM, sPutD, eMelt, lMelt, eMake,
  getD, getB, slotL, slotD, slotM, freeze, setD, rowOf_tup, rowOf_lst, Ret_v_val, Ret_v_frl, Ret_f_frl, oItems_lst, oItems_tup, oIx_lst, oIx_tup, oIx_scr, oLen_lst, oLen_tup, oLen_scr, cInt_int, oAdd_int, oSub_int, oInt_int, oTuple_lst, oTuple_tup, oList_lst, oList_tup, oBl_bl, oNot_bl, oSlL_lst, oSlL_scr, oSlT_tup, oSlR_tup, oSlR_lst, oI_int, oAttr_obj, oAug_int, oSlR_scr, cEq_int, oSeq_lst, oSeq_tup, lcItem, calm_ok, cElt, wipeE, if_true, if_false, Bool.false_eq_true, Bool.true_eq_false, Bool.not_true, Bool.not_false, reduceCtorEq, mkL_ok, oMod_int, oDiv_int, oMul_int, oPow_10_18, Int.reduceLT, Int.reduceLE, Int.reduceNeg, Int.reducePow, Nat.reduceLeDiff, Nat.reduceLT, and_self, true_or, or_true, and_true, true_and, Nat.zero_le, Int.zero_add])
local macro_rules | `(tactic| walk_at "mir*") => `(tactic| try simp (implicitDefEqProofs := false) only [runD, startE, endO, List.map_cons, List.map_nil, List.length_cons, List.length_nil, Nat.sub_self, Nat.reduceAdd, Nat.reduceSub, Nat.reduceMul, List.replicate, List.cons_append, List.nil_append, if_pos, R.bind_ok, R.of_some, R.map_ok, Option.bind_some, Option.map_some, withR_ok, seqO_nx, seqO_rt, List.set_cons_zero, List.set_cons_succ, List.getElem?_cons_zero, List.getElem?_cons_succ,
  eC, eOp, lOp, eCmp, bCmp, eNotInD, eUn, lUn, eIsi, eIsi2, eIf, eAnd, eOr, bAnd, bOr, bNot, bVal, eChain, bChain, pNone, pSome, lSl, eSlT, eSlR, aNil, aCons, eTup, lLst, eFz, eAttr, eCall, lCall, lLc, bYes, gsNil, gsCons, gT, iSeq, iR1, iR2, iZip2, iEnm, sNx, sSeq, sSet, sSetF, sSetFz, sAsg, sExpr, sRet, sRetF, sRetOwn, sRetN, sIf, sApp, sIns, sAug, sFor, sFrz, sFldM, sSetM, sPutD, eMelt, lMelt, eMake,
  getD, getB, slotL, slotD, slotM, freeze, setD, rowOf_tup, rowOf_lst, Ret_v_val, Ret_v_frl, Ret_f_frl, oItems_lst, oItems_tup, oIx_lst, oIx_tup, oIx_scr, oLen_lst, oLen_tup, oLen_scr, cInt_int, oAdd_int, oSub_int, oInt_int, oTuple_lst, oTuple_tup, oList_lst, oList_tup, oBl_bl, oNot_bl, oSlL_lst, oSlL_scr, oSlT_tup, oSlR_tup, oSlR_lst, oI_int, oAttr_obj, oAug_int, oSlR_scr, cEq_int, oSeq_lst, oSeq_tup, lcItem, calm_ok, cElt, wipeE, if_true, if_false, Bool.false_eq_true, Bool.true_eq_false, Bool.not_true, Bool.not_false, reduceCtorEq, mkL_ok, oMod_int, oDiv_int, oMul_int, oPow_10_18, Int.reduceLT, Int.reduceLE, Int.reduceNeg, Int.reducePow, Nat.reduceLeDiff, Nat.reduceLT, and_self, true_or, or_true, and_true, true_and, Nat.zero_le, Int.zero_add, decide_true, decide_false, *])
/-! ### the draws of a law -/
def cellI (ns : List Int) (k : Nat) : Int := ns.getD k 0
theorem m_cell (ns : List Int) (k : Nat) : m__law_cell [.scr ns, .int (k : Int)] = .ok (.val (.int (cellI ns k))) := by
  unfold m__law_cell
  walk_at "mir"
  by_cases h : k < ns.length
  · have h1 : decide ((k : Int) < (ns.length : Int)) = true := by simpa using h
    simp only [h1, if_pos, atI_ofNat, List.getElem?_eq_getElem h]
    walk_at "mir"
    simp [cellI, h]
  · have h1 : decide ((k : Int) < (ns.length : Int)) = false := by simpa using h
    simp only [h1]
    walk_at "mir"
    simp [cellI, h]
/-- a row of drawn numbers: so many, each from 0 to 839 -/
def RowOk (n : Nat) (xs : List Int) : Prop := xs.length = n ∧ ∀ x ∈ xs, 0 ≤ x ∧ x < 840
theorem m_row (cell : Int) (n : Nat) (hn : n ≤ 1000) : ∃ xs, RowOk n xs ∧ m__law_row [.int cell, .int (n : Int)] = .ok (.frl (xs.map .int)) := by
  unfold m__law_row
  walk_at "mir"
  rw [oRg1_nat (by omega)]
  walk_at "mir"
  obtain ⟨⟨xs, rest, seed, j⟩, e, hl, hr, _⟩ := for_map (gt := setD 5) (g := b__law_row_1) (fun (i : Nat) => D.int (i : Int))
    (fun (s : List Int × Int × Int × Option S) => [some (S.d (D.int cell)), some (S.d (D.int (n : Int))), some (S.ml (s.1.map .int)), some (S.d (D.int s.2.1)), some (S.d (D.int s.2.2.1)), s.2.2.2])
    (fun pre s => s.1.length = pre.length ∧ (∀ x ∈ s.1, 0 ≤ x ∧ x < 840) ∧ pre.length ≤ n) (List.range n) ([], cell, cell % 2147483629 + 1, none) ⟨rfl, by simp, Nat.zero_le _⟩ (by
    intro pre x post s hx hP
    obtain ⟨xs, rest, seed, j⟩ := s
    obtain ⟨h1, h2, h3⟩ := hP
    simp only at h1 h2
    have hpn : pre.length + 1 ≤ n := by
      have := congrArg List.length hx
      simp at this
      omega
    have hlen : (xs.map D.int).length < 16777216 := by simp; omega
    refine ⟨_, if 1000000000000000000 ≤ cell then (xs ++ [rest % 840], rest / 840, seed, some (S.d (D.int (x : Int)))) else (xs ++ [((seed * 48271 + x) % 2147483647 * 69621) % 2147483629 / 7 % 840], rest, (seed * 48271 + x) % 2147483647, some (S.d (D.int (x : Int)))), rfl, .inl ?_, ?_⟩
    · unfold b__law_row_1
      walk_at "mir"
      by_cases hc : 1000000000000000000 ≤ cell
      · simp only [hc, decide_true, if_true]
        walk_at "mir"
        simp only [hlen, if_true]
        walk_at "mir"
        simp only [List.map_append, List.map_cons, List.map_nil]
      · simp only [hc, decide_false]
        walk_at "mir"
        simp only [hlen, if_true, if_false]
        walk_at "mir"
        simp only [List.map_append, List.map_cons, List.map_nil]
    · by_cases hc : 1000000000000000000 ≤ cell
      · simp only [hc, if_true]
        refine ⟨by simp [h1], fun y hy => ?_, by simp; omega⟩
        rcases List.mem_append.mp hy with hy | hy
        · exact h2 y hy
        · simp only [List.mem_singleton] at hy
          subst hy
          omega
      · simp only [hc, if_false]
        refine ⟨by simp [h1], fun y hy => ?_, by simp; omega⟩
        rcases List.mem_append.mp hy with hy | hy
        · exact h2 y hy
        · simp only [List.mem_singleton] at hy
          subst hy
          omega)
  refine ⟨xs, ⟨by simpa using hl, hr⟩, ?_⟩
  simp only [List.map_nil] at e
  rw [e]
  walk_at "mir"
/-! ### law_k22: splices -/
abbrev Ms := Bool × Int
def wd (b : Bool) : Str := if b then "high" else "low"
theorem wd_ok (b : Bool) : PyData.strOk (wd b) = true := by cases b <;> decide +kernel
theorem wd_ne : (wd true == wd false) = false := by decide +kernel
theorem wd_ne' : (wd false == wd true) = false := by decide +kernel
def msgD (m : Ms) : D := .tup [.str (wd m.1), .int m.2]
def msgL (m : Ms) : D := .lst [.str (wd m.1), .int m.2]
theorem msg_eqD (m : Ms) : EqD 1 (msgD m) := .tup fun d hd => by
  rcases List.mem_cons.mp hd with rfl | hd
  · exact .str 0 (wd_ok _)
  · rcases List.mem_cons.mp hd with rfl | hd
    · exact .int 0 _
    · cases hd
theorem msgs_eqD (xs : List Ms) : EqD 2 (.lst (xs.map msgD)) := .lst fun d hd => by
  obtain ⟨m, _, rfl⟩ := List.mem_map.mp hd
  exact msg_eqD m
theorem eq_msg (x y : Ms) : cEq (msgD x) (msgD y) = some (decide (x = y)) := by
  obtain ⟨p, h1, h2, h3⟩ := (msg_eqD x).py
  obtain ⟨q, k1, k2, k3⟩ := (msg_eqD y).py
  have hs : SeqAt.shaped p = true := by
    unfold SeqAt.shaped
    rw [h2, Bool.true_and]
    exact decide_eq_true (by omega)
  have ks : SeqAt.shaped q = true := by
    unfold SeqAt.shaped
    rw [k2, Bool.true_and]
    exact decide_eq_true (by omega)
  unfold cEq
  rw [h1, k1]
  simp only [Option.bind_some, hs, ks, Bool.and_self, if_pos]
  obtain ⟨a, i⟩ := x
  obtain ⟨b, j⟩ := y
  simp [msgD, D.py, pys] at h1 k1
  subst h1 k1
  have e : (wd a == wd b) = (a == b) := by cases a <;> cases b <;> first | exact wd_ne | exact wd_ne' | simp
  simp [PyData.eqv, PyData.eqvAll, e, Bool.beq_eq_decide_eq, Bool.decide_and, Prod.ext_iff]
theorem ne_msg (x y : Ms) : cNe (msgD x) (msgD y) = some (!decide (x = y)) := by
  unfold cNe; rw [eq_msg]; rfl
/-- how many messages two lists have in common at their beginnings -/
def cp : List Ms → List Ms → Nat
  | x :: xs, y :: ys => if x = y then cp xs ys + 1 else 0
  | _, _ => 0
theorem cp_le : ∀ xs ys : List Ms, cp xs ys ≤ xs.length ∧ cp xs ys ≤ ys.length
  | [], _ => by simp [cp]
  | _ :: _, [] => by simp [cp]
  | x :: xs, y :: ys => by
    have h := cp_le xs ys
    unfold cp
    split <;> simp <;> omega
theorem cp_take : ∀ xs ys : List Ms, xs.take (cp xs ys) = ys.take (cp xs ys)
  | [], _ => by simp [cp]
  | _ :: _, [] => by simp [cp]
  | x :: xs, y :: ys => by
    unfold cp
    split
    · rename_i h
      rw [List.take_succ_cons, List.take_succ_cons, cp_take xs ys, h]
    · rfl
theorem cp_max : ∀ (xs ys : List Ms) (x y : Ms), xs[cp xs ys]? = some x → ys[cp xs ys]? = some y → x ≠ y
  | [], _, _, _, h, _ => by simp at h
  | _ :: _, [], _, _, _, h => by simp at h
  | a :: xs, b :: ys, x, y, h1, h2 => by
    unfold cp at h1 h2
    split at h1
    · rename_i e
      rw [if_pos e] at h2
      exact cp_max xs ys x y (by simpa using h1) (by simpa using h2)
    · rename_i e
      rw [if_neg e] at h2
      simp at h1 h2
      subst h1 h2
      exact e
theorem cp_at : ∀ (xs ys : List Ms) (k : Nat), k ≤ cp xs ys → k < xs.length → k < ys.length → (cp xs ys = k ↔ xs[k]? ≠ ys[k]?)
  | [], _, _, _, h, _ => by simp at h
  | _ :: _, [], _, _, _, h => by simp at h
  | a :: xs, b :: ys, 0, h0, h1, h2 => by
    unfold cp
    split
    · rename_i e; simp [e]
    · rename_i e; simp [e]
  | a :: xs, b :: ys, k + 1, h0, h1, h2 => by
    unfold cp at h0 ⊢
    split at h0
    · rename_i e
      rw [if_pos e]
      have ih := cp_at xs ys k (by omega) (by simpa using h1) (by simpa using h2)
      simp only [List.getElem?_cons_succ]
      constructor
      · intro q; exact ih.mp (by omega)
      · intro q; have := ih.mpr q; omega
    · omega
/-! #### the program -/
theorem zip_msgs : ∀ xs ys : List Ms, zip2 (xs.map msgD) (ys.map msgD) = (xs.zip ys).map fun p => .tup [msgD p.1, msgD p.2] := zip2_map msgD msgD
theorem pre_loop (a b : D) : ∀ (xs ys : List Ms) (k : Nat) (j1 j2 : Option S),
    (∃ j3 j4, forD (gT 2 (gsCons (setD 3) (gsCons (setD 4) gsNil))) b_common_prefix_1 ((xs.zip ys).map fun p => .tup [msgD p.1, msgD p.2]) [some (.d a), some (.d b), some (.d (.int (k : Int))), j1, j2] = some (.nx [some (.d a), some (.d b), some (.d (.int ((k + cp xs ys : Nat) : Int))), j3, j4])) ∨
    forD (gT 2 (gsCons (setD 3) (gsCons (setD 4) gsNil))) b_common_prefix_1 ((xs.zip ys).map fun p => .tup [msgD p.1, msgD p.2]) [some (.d a), some (.d b), some (.d (.int (k : Int))), j1, j2] = some (.rt (.val (.int ((k + cp xs ys : Nat) : Int))))
  | [], ys, k, j1, j2 => .inl ⟨j1, j2, by simp [forD, cp]⟩
  | _ :: _, [], k, j1, j2 => .inl ⟨j1, j2, by simp [forD, cp]⟩
  | x :: xs, y :: ys, k, j1, j2 => by
    have ih := pre_loop a b xs ys (k + 1) (some (.d (msgD x))) (some (.d (msgD y)))
    rw [List.zip_cons_cons, List.map_cons]
    unfold forD cp
    simp only []
    have e1 : gT 2 (gsCons (setD 3) (gsCons (setD 4) gsNil)) (.tup [msgD x, msgD y]) [some (.d a), some (.d b), some (.d (.int (k : Int))), j1, j2] = some [some (.d a), some (.d b), some (.d (.int (k : Int))), some (.d (msgD x)), some (.d (msgD y))] := by
      walk_at "mir"
    rw [e1]
    simp only [Option.bind_some]
    by_cases e : x = y
    · have e2 : b_common_prefix_1 [some (.d a), some (.d b), some (.d (.int (k : Int))), some (.d (msgD x)), some (.d (msgD y))] = some (.nx [some (.d a), some (.d b), some (.d (.int ((k + 1 : Nat) : Int))), some (.d (msgD x)), some (.d (msgD y))]) := by
        unfold b_common_prefix_1
        walk_at "mir"
        rw [ne_msg, decide_eq_true e]
        walk_at "mir"
        rfl
      rw [e2, if_pos e, show k + (cp xs ys + 1) = k + 1 + cp xs ys by omega]
      exact ih
    · have e2 : b_common_prefix_1 [some (.d a), some (.d b), some (.d (.int (k : Int))), some (.d (msgD x)), some (.d (msgD y))] = some (.rt (.val (.int (k : Int)))) := by
        unfold b_common_prefix_1
        walk_at "mir"
        rw [ne_msg, decide_eq_false e]
        walk_at "mir"
      rw [e2, if_neg e]
      exact .inr rfl
theorem m_common (xs ys : List Ms) : m_common_prefix [.lst (xs.map msgD), .lst (ys.map msgD)] = .ok (.val (.int (cp xs ys : Nat))) := by
  unfold m_common_prefix
  walk_at "mir"
  have ez : oZip2 (.lst (xs.map msgD)) (.lst (ys.map msgD)) = some ((xs.zip ys).map fun p => .tup [msgD p.1, msgD p.2]) := by
    unfold oZip2
    rw [oSeq_lst, oSeq_lst]
    exact congrArg some (zip_msgs xs ys)
  rw [ez]
  walk_at "mir"
  rcases pre_loop (.lst (xs.map msgD)) (.lst (ys.map msgD)) xs ys 0 none none with ⟨j1, j2, e⟩ | e
  · rw [show (D.int 0) = D.int ((0 : Nat) : Int) from rfl, e, Nat.zero_add]
    walk_at "mir"
  · rw [show (D.int 0) = D.int ((0 : Nat) : Int) from rfl, e, Nat.zero_add]
    walk_at "mir"
/-- messages as a list or a tuple of lists or tuples -/
def Given (a : D) (xs : List Ms) : Prop := ∃ c, oItems a = some (xs.map c) ∧ (∀ x, oTuple (c x) = some (msgD x)) ∧ xs.length ≤ 1000
theorem lc_tuples {ρ : DL.Env} {xs : List Ms} {c : Ms → D} {fe : DL.Env → R D} (i : Nat) (hc : ∀ x, oTuple (c x) = some (msgD x)) (hl : xs.length ≤ 1000) (hf : ∀ ρ, fe ρ = eUn oTuple (getB i) ρ) (hi : i < ρ.length) :
    lcF [i] (setD i) bYes fe ρ (xs.map c) = some (xs.map msgD) := by
  refine lc_map c (f := msgD) (by omega) fun x hx => ?_
  unfold lcItem
  have e : setD i (c x) (wipeE ρ [i]) = some ((wipeE ρ [i]).set i (some (.d (c x)))) := rfl
  rw [e]
  simp only [Option.bind_some, bYes, calm_ok, if_pos]
  have e2 : ((wipeE ρ [i]).set i (some (S.d (c x))))[i]? = some (some (.d (c x))) := List.getElem?_set_self (by rw [wipeE_length]; exact hi)
  rw [hf]
  simp only [eUn, getB, e2, R.bind_ok, hc, R.of_some, calm_ok, Option.map_some]
def spl (xs ys : List Ms) : Nat × Nat := (cp xs ys, cp (xs.drop (cp xs ys)).reverse (ys.drop (cp xs ys)).reverse)
def insd (xs ys : List Ms) : List Ms := (ys.drop (spl xs ys).1).take ((ys.drop (spl xs ys).1).length - (spl xs ys).2)
def gonN (xs ys : List Ms) : Nat := (xs.drop (spl xs ys).1).length - (spl xs ys).2
def splD (xs ys : List Ms) : D := .tup [.int ((spl xs ys).1 : Nat), .int (gonN xs ys : Nat), .lst ((insd xs ys).map msgD)]
theorem spl_le (xs ys : List Ms) : (spl xs ys).2 ≤ (xs.drop (spl xs ys).1).length ∧ (spl xs ys).2 ≤ (ys.drop (spl xs ys).1).length := by
  have h := cp_le (xs.drop (cp xs ys)).reverse (ys.drop (cp xs ys)).reverse
  rw [List.length_reverse, List.length_reverse] at h
  exact h
theorem rev_msgs {zs : List Ms} (h : zs.length ≤ 1000) : oRev (.lst (zs.map msgD)) = some (zs.reverse.map msgD) := by
  unfold oRev; rw [List.map_reverse]
theorem m_splice_ok {a b : D} {xs ys : List Ms} (ha : Given a xs) (hb : Given b ys) : m_splice [a, b] = .ok (.val (splD xs ys)) := by
  obtain ⟨c, a1, a2, a3⟩ := ha
  obtain ⟨c', b1, b2, b3⟩ := hb
  have hle := spl_le xs ys
  unfold m_splice
  walk_at "mir"
  rw [a1]
  walk_at "mir"
  rw [lc_tuples (fe := e_splice_1) 6 a2 a3 (fun ρ => rfl) (by simp)]
  walk_at "mir"
  rw [b1]
  walk_at "mir"
  rw [lc_tuples (fe := e_splice_2) 6 b2 b3 (fun ρ => rfl) (by simp)]
  walk_at "mir"
  rw [m_common]
  walk_at "mir"
  rw [cut_from, cut_from, ← List.map_drop, ← List.map_drop, rev_msgs (by simp; omega), rev_msgs (by simp; omega)]
  walk_at "mir"
  rw [m_common]
  walk_at "mir"
  have e1 : (((List.map msgD (List.drop (cp xs ys) ys)).length : Nat) : Int) - ((cp (xs.drop (cp xs ys)).reverse (ys.drop (cp xs ys)).reverse : Nat) : Int) = (((ys.drop (spl xs ys).1).length - (spl xs ys).2 : Nat) : Int) := by
    rw [List.length_map]
    show (((ys.drop (spl xs ys).1).length : Nat) : Int) - (((spl xs ys).2 : Nat) : Int) = _
    omega
  have e2 : (((List.map msgD (List.drop (cp xs ys) xs)).length : Nat) : Int) - ((cp (xs.drop (cp xs ys)).reverse (ys.drop (cp xs ys)).reverse : Nat) : Int) = ((gonN xs ys : Nat) : Int) := by
    rw [List.length_map]
    show (((xs.drop (spl xs ys).1).length : Nat) : Int) - (((spl xs ys).2 : Nat) : Int) = _
    unfold gonN
    omega
  rw [e1, e2, cut_to, ← List.map_take]
  rfl
theorem cat_ok {xs ys : List D} (h : xs.length + ys.length ≤ 16777216) : oCat (.lst xs) (.lst ys) = some (xs ++ ys) := if_pos h
theorem m_spliced_ok {a ch : D} {xs : List Ms} (p r : Nat) (ins : List Ms) (ha : Given a xs) (hl : ins.length ≤ 1000) (hc : rowOf ch = some [.int (p : Nat), .int (r : Nat), .lst (ins.map msgD)]) :
    m_spliced [a, ch] = .ok (.frl ((xs.take p ++ ins ++ xs.drop (p + r)).map msgD)) := by
  obtain ⟨c, a1, a2, a3⟩ := ha
  unfold m_spliced
  walk_at "mir"
  rw [hc]
  walk_at "mir"
  rw [a1]
  walk_at "mir"
  rw [lc_tuples (fe := e_spliced_1) 6 a2 a3 (fun ρ => rfl) (by simp)]
  walk_at "mir"
  rw [lc_tuples (c := msgD) (fe := e_spliced_2) 6 (fun x => rfl) hl (fun ρ => rfl) (by simp)]
  walk_at "mir"
  rw [cut_to, show ((p : Int) + (r : Int)) = ((p + r : Nat) : Int) by omega, cut_from, ← List.map_take, ← List.map_drop]
  have e1 : oCat (.lst ((xs.take p).map msgD)) (.lst (ins.map msgD)) = some ((xs.take p).map msgD ++ ins.map msgD) := by
    exact cat_ok (by simp; omega)
  rw [e1]
  walk_at "mir"
  have e2 : oCat (.lst ((xs.take p).map msgD ++ ins.map msgD)) (.lst ((xs.drop (p + r)).map msgD)) = some ((xs.take p).map msgD ++ ins.map msgD ++ (xs.drop (p + r)).map msgD) := by
    exact cat_ok (by simp; omega)
  rw [e2]
  walk_at "mir"
  rw [List.map_append, List.map_append]

/-! #### the law -/
theorem law_loop (xs ys : List Ms) (a b : D) (ea : a = .lst (xs.map msgD)) (eb : b = .lst (ys.map msgD)) : ∀ (n k s : Nat) (j : Option S), k + n ≤ xs.length → k + n ≤ ys.length → s ≤ k → s = min k (cp xs ys) →
    ∃ j', forD (setD 3) b__law_common_1 ((List.range' k n).map fun (i : Nat) => .int (i : Int)) [some (.d a), some (.d b), some (.d (.int (s : Nat))), j] = some (.nx [some (.d a), some (.d b), some (.d (.int (min (k + n) (cp xs ys) : Nat))), j'])
  | 0, k, s, j, _, _, _, e => ⟨j, by simp [forD, e]⟩
  | n + 1, k, s, j, h1, h2, h3, e => by
    rw [List.range'_succ, List.map_cons]
    unfold forD
    have e0 : setD 3 (D.int (k : Int)) [some (.d a), some (.d b), some (.d (.int (s : Nat))), j] = some [some (.d a), some (.d b), some (.d (.int (s : Nat))), some (.d (.int (k : Int)))] := rfl
    rw [e0]
    simp only [Option.bind_some]
    have hx : k < xs.length := by omega
    have hy : k < ys.length := by omega
    have gx : atI (xs.map msgD) (k : Int) = some (msgD xs[k]) := by rw [atI_ofNat, List.getElem?_map, List.getElem?_eq_getElem hx]; rfl
    have gy : atI (ys.map msgD) (k : Int) = some (msgD ys[k]) := by rw [atI_ofNat, List.getElem?_map, List.getElem?_eq_getElem hy]; rfl
    have key : b__law_common_1 [some (.d a), some (.d b), some (.d (.int (s : Nat))), some (.d (.int (k : Int)))] = some (.nx [some (.d a), some (.d b), some (.d (.int (min (k + 1) (cp xs ys) : Nat))), some (.d (.int (k : Int)))]) := by
      subst ea eb
      unfold b__law_common_1
      walk_at "mir"
      by_cases hs : s = k
      · have b1 : ((s : Int) == (k : Int)) = true := by simp [hs]
        rw [b1]
        walk_at "mir"
        simp only [gx, gy]
        walk_at "mir"
        rw [eq_msg]
        have hc := cp_at xs ys k (by omega) hx hy
        rw [List.getElem?_eq_getElem hx, List.getElem?_eq_getElem hy] at hc
        by_cases hq : xs[k] = ys[k]
        · rw [decide_eq_true hq]
          walk_at "mir"
          have : cp xs ys ≠ k := fun q => hc.mp q (by rw [hq])
          rw [show min (k + 1) (cp xs ys) = k + 1 by omega]
          rfl
        · rw [decide_eq_false hq]
          walk_at "mir"
          have : cp xs ys = k := hc.mpr fun q => hq (Option.some.inj q)
          rw [show min (k + 1) (cp xs ys) = s by omega]
      · have b1 : ((s : Int) == (k : Int)) = false := by
          rw [beq_eq_false_iff_ne]; omega
        rw [b1]
        walk_at "mir"
        rw [show min (k + 1) (cp xs ys) = s by omega]
    rw [key]
    simp only [Option.bind_some, afterO_nx]
    obtain ⟨j', ih⟩ := law_loop xs ys a b ea eb n (k + 1) (min (k + 1) (cp xs ys)) (some (.d (.int (k : Int)))) (by omega) (by omega) (by omega) rfl
    exact ⟨j', by rw [ih, show k + 1 + n = k + (n + 1) by omega]⟩
theorem m_law_common (xs ys : List Ms) (h1 : xs.length ≤ 1000) (h2 : ys.length ≤ 1000) : m__law_common [.lst (xs.map msgD), .lst (ys.map msgD)] = .ok (.val (.int (cp xs ys : Nat))) := by
  unfold m__law_common
  walk_at "mir"
  have em : oMin2 (.int ((xs.map msgD).length : Nat)) (.int ((ys.map msgD).length : Nat)) = some (.int ((min xs.length ys.length : Nat) : Int)) := by
    unfold oMin2
    rw [List.length_map, List.length_map]
    refine congrArg (fun z => some (D.int z)) ?_
    split <;> omega
  rw [em]
  walk_at "mir"
  rw [oRg1_nat (by omega)]
  walk_at "mir"
  obtain ⟨j, e⟩ := law_loop xs ys _ _ rfl rfl (min xs.length ys.length) 0 0 none (by omega) (by omega) (Nat.le_refl _) (by simp)
  rw [← List.range_eq_range'] at e
  rw [show (D.int 0) = D.int ((0 : Nat) : Int) from rfl, e]
  walk_at "mir"
  have := cp_le xs ys
  rw [show min (0 + min xs.length ys.length) (cp xs ys) = cp xs ys by omega]
/-! #### what splices do -/
theorem suffix_eq (xs ys : List Ms) : xs.drop (xs.length - cp xs.reverse ys.reverse) = ys.drop (ys.length - cp xs.reverse ys.reverse) := by
  have h := cp_take xs.reverse ys.reverse
  have hl := cp_le xs.reverse ys.reverse
  rw [List.length_reverse, List.length_reverse] at hl
  rw [List.take_reverse, List.take_reverse] at h
  have h2 := congrArg List.reverse h
  rwa [List.reverse_reverse, List.reverse_reverse] at h2
theorem splice_back (xs ys : List Ms) : xs.take (spl xs ys).1 ++ insd xs ys ++ xs.drop ((spl xs ys).1 + gonN xs ys) = ys := by
  have e1 := cp_take xs ys
  have e2 := suffix_eq (xs.drop (cp xs ys)) (ys.drop (cp xs ys))
  have e3 : xs.drop ((spl xs ys).1 + gonN xs ys) = (ys.drop (cp xs ys)).drop ((ys.drop (cp xs ys)).length - (spl xs ys).2) := by
    rw [← List.drop_drop]
    exact e2
  rw [e3]
  show xs.take (cp xs ys) ++ (ys.drop (cp xs ys)).take ((ys.drop (cp xs ys)).length - (spl xs ys).2) ++ _ = ys
  rw [e1, List.append_assoc, List.take_append_drop, List.take_append_drop]

end K22
namespace K22
open PySem PySem.Spec PyProof.Rows L2 DL
local macro_rules | `(tactic| walk_at "mir") => `(tactic| try simp (implicitDefEqProofs := false) only [runD, startE, endO, List.map_cons, List.map_nil, List.length_cons, List.length_nil, Nat.sub_self, Nat.reduceAdd, Nat.reduceSub, Nat.reduceMul, List.replicate, List.cons_append, List.nil_append, if_pos, R.bind_ok, R.of_some, R.map_ok, Option.bind_some, Option.map_some, withR_ok, seqO_nx, seqO_rt, List.set_cons_zero, List.set_cons_succ, List.getElem?_cons_zero, List.getElem?_cons_succ,
  eC, eOp, lOp, eCmp, bCmp, eNotInD, eUn, lUn, eIsi, eIsi2, eIf, eAnd, eOr, bAnd, bOr, bNot, bVal, eChain, bChain, pNone, pSome, lSl, eSlT, eSlR, aNil, aCons, eTup, lLst, eFz, eAttr, eCall, lCall, lLc, bYes, gsNil, gsCons, gT, iSeq, iR1, iR2, iZip2, iEnm, sNx, sSeq, sSet, sSetF, sSetFz, sAsg, sExpr, sRet, sRetF, sRetOwn, sRetN, sIf, sApp, sIns, sAug, sFor, sFrz, sFldM, sSetM, sPutD, eMelt, lMelt, eMake,
  getD, getB, slotL, slotD, slotM, freeze, setD, rowOf_tup, rowOf_lst, Ret_v_val, Ret_v_frl, Ret_f_frl, oItems_lst, oItems_tup, oIx_lst, oIx_tup, oIx_scr, oLen_lst, oLen_tup, oLen_scr, cInt_int, oAdd_int, oSub_int, oInt_int, oTuple_lst, oTuple_tup, oList_lst, oList_tup, oBl_bl, oNot_bl, oSlL_lst, oSlL_scr, oSlT_tup, oSlR_tup, oSlR_lst, oI_int, oAttr_obj, oAug_int, oSlR_scr, cEq_int, oSeq_lst, oSeq_tup, lcItem, calm_ok, cElt, wipeE, if_true, if_false, Bool.false_eq_true, Bool.true_eq_false, Bool.not_true, Bool.not_false, reduceCtorEq, mkL_ok, oMod_int, oDiv_int, oMul_int, oPow_10_18, Int.reduceLT, Int.reduceLE, Int.reduceNeg, Int.reducePow, Nat.reduceLeDiff, Nat.reduceLT, and_self, true_or, or_true, and_true, true_and, Nat.zero_le, Int.zero_add])
local macro_rules | `(tactic| walk_at "mir*") => `(tactic| try simp (implicitDefEqProofs := false) only [runD, startE, endO, List.map_cons, List.map_nil, List.length_cons, List.length_nil, Nat.sub_self, Nat.reduceAdd, Nat.reduceSub, Nat.reduceMul, List.replicate, List.cons_append, List.nil_append, if_pos, R.bind_ok, R.of_some, R.map_ok, Option.bind_some, Option.map_some, withR_ok, seqO_nx, seqO_rt, List.set_cons_zero, List.set_cons_succ, List.getElem?_cons_zero, List.getElem?_cons_succ,
  eC, eOp, lOp, eCmp, bCmp, eNotInD, eUn, lUn, eIsi, eIsi2, eIf, eAnd, eOr, bAnd, bOr, bNot, bVal, eChain, bChain, pNone, pSome, lSl, eSlT, eSlR, aNil, aCons, eTup, lLst, eFz, eAttr, eCall, lCall, lLc, bYes, gsNil, gsCons, gT, iSeq, iR1, iR2, iZip2, iEnm, sNx, sSeq, sSet, sSetF, sSetFz, sAsg, sExpr, sRet, sRetF, sRetOwn, sRetN, sIf, sApp, sIns, sAug, sFor, sFrz, sFldM, sSetM, sPutD, eMelt, lMelt, eMake,
  getD, getB, slotL, slotD, slotM, freeze, setD, rowOf_tup, rowOf_lst, Ret_v_val, Ret_v_frl, Ret_f_frl, oItems_lst, oItems_tup, oIx_lst, oIx_tup, oIx_scr, oLen_lst, oLen_tup, oLen_scr, cInt_int, oAdd_int, oSub_int, oInt_int, oTuple_lst, oTuple_tup, oList_lst, oList_tup, oBl_bl, oNot_bl, oSlL_lst, oSlL_scr, oSlT_tup, oSlR_tup, oSlR_lst, oI_int, oAttr_obj, oAug_int, oSlR_scr, cEq_int, oSeq_lst, oSeq_tup, lcItem, calm_ok, cElt, wipeE, if_true, if_false, Bool.false_eq_true, Bool.true_eq_false, Bool.not_true, Bool.not_false, reduceCtorEq, mkL_ok, oMod_int, oDiv_int, oMul_int, oPow_10_18, Int.reduceLT, Int.reduceLE, Int.reduceNeg, Int.reducePow, Nat.reduceLeDiff, Nat.reduceLT, and_self, true_or, or_true, and_true, true_and, Nat.zero_le, Int.zero_add, decide_true, decide_false, *])
/-! #### the lists -/
theorem atI_last {α : Type} {xs : List α} (h : 0 < xs.length) : atI xs (-1) = xs[xs.length - 1]? := by
  unfold atI ixN
  rw [if_neg (by omega), if_pos (by omega)]
  simp only [Option.bind_some]
  rw [show (-1 + (xs.length : Int)).toNat = xs.length - 1 by omega]
theorem revD (zs : List D) : oRev (.lst zs) = some zs.reverse := rfl
def mkMs (x : Int) : Ms := (decide (x % 2 = 1), x / 2 % 4)
theorem e_lists (ρ : DL.Env) (x : Int) (h : ρ[1]? = some (some (.d (.int x)))) : e__law_lists_1 ρ = .ok (msgD (mkMs x)) := by
  unfold e__law_lists_1
  simp only [eTup, aCons, eOp, eFz, lLst, eC, aNil, getB, h, R.bind_ok, mkL_ok (xs := [D.str "low", D.str "high"]) (by simp), R.of_some, R.map_ok, oMod_int (show (0 : Int) < 2 by decide), oMod_int (show (0 : Int) < 4 by decide), oDiv_int (i := x) (j := 2) (by decide), oIx_lst]
  have h2 : x % 2 = ((0 : Nat) : Int) ∨ x % 2 = ((1 : Nat) : Int) := by omega
  rcases h2 with h2 | h2
  · rw [h2, atI_ofNat]
    simp [msgD, mkMs, wd, h2, mkL_ok]
  · rw [h2, atI_ofNat]
    simp [msgD, mkMs, wd, h2, mkL_ok]
theorem cutN {α : Type} (xs : List α) (i : Int) (h : 0 ≤ i) : cut xs none (some i) = xs.take i.toNat := by
  obtain ⟨n, rfl⟩ : ∃ n : Nat, i = (n : Int) := ⟨i.toNat, by omega⟩
  rw [cut_to]; rfl
theorem edit_ok (a : D) (fs : D) (zs : List Ms) (x : Int) (j : Option S) (hl : zs.length ≤ 500) : ∃ zs' : List Ms, zs'.length ≤ zs.length + 3 ∧
    ∃ j', b__law_lists_1 [some (.d a), some (.d (.int x)), some (.d fs), some (.d (.lst (zs.map msgD))), j] = some (.nx [some (.d a), some (.d (.int x)), some (.d fs), some (.d (.lst (zs'.map msgD))), j']) := by
  obtain ⟨n, hn⟩ : ∃ n : Nat, x / 5 % ((zs.length : Int) + 1) = (n : Int) := ⟨(x / 5 % ((zs.length : Int) + 1)).toNat, by
    have := Int.emod_nonneg (x / 5) (show ((zs.length : Int) + 1) ≠ 0 by omega)
    omega⟩
  have hn1 : n ≤ zs.length := by
    have := Int.emod_lt_of_pos (x / 5) (show 0 < ((zs.length : Int) + 1) by omega)
    omega
  unfold b__law_lists_1
  walk_at "mir"
  try rw [oDiv_int (i := x) (j := 5) (by decide)]
  walk_at "mir"
  rw [oMod_int (by rw [List.length_map]; omega)]
  walk_at "mir"
  rw [List.length_map, hn]
  walk_at "mir"
  try rw [oMod_int (by decide)]
  walk_at "mir"
  by_cases h0 : x % 5 = 0
  · have b0 : (x % 5 == 0) = true := by simp [h0]
    rw [b0]
    walk_at "mir"
    try rw [oDiv_int (i := x) (j := 7) (by decide)]
    walk_at "mir"
    try rw [oMod_int (by decide)]
    try rw [mkL_ok (by simp)]
    walk_at "mir"
    try rw [mkL_ok (by simp)]
    walk_at "mir"
    rw [cut_to, cut_from, cat_ok (by simp; omega)]
    walk_at "mir"
    rw [cat_ok (by simp; omega)]
    walk_at "mir"
    exact ⟨zs.take n ++ [(false, x / 7 % 4)] ++ zs.drop n, by simp; omega, some (.d (.int (n : Int))), by simp [msgD, wd, List.map_take, List.map_drop]⟩
  · have b0 : (x % 5 == 0) = false := by rw [beq_eq_false_iff_ne]; exact h0
    rw [b0]
    walk_at "mir"
    by_cases h1 : x % 5 = 1
    · have b1 : (x % 5 == 1) = true := by simp [h1]
      rw [b1]
      walk_at "mir"
      try rw [oDiv_int (i := x) (j := 11) (by decide)]
      walk_at "mir"
      try rw [oMod_int (by decide)]
      walk_at "mir"
      obtain ⟨m, hm⟩ : ∃ m : Nat, (n : Int) + 1 + x / 11 % 3 = (m : Int) := ⟨((n : Int) + 1 + x / 11 % 3).toNat, by omega⟩
      rw [hm, cut_to, cut_from, cat_ok (by simp; omega)]
      walk_at "mir"
      exact ⟨zs.take n ++ zs.drop m, by simp; omega, some (.d (.int (n : Int))), by simp [List.map_take, List.map_drop]⟩
    · have b1 : (x % 5 == 1) = false := by rw [beq_eq_false_iff_ne]; exact h1
      rw [b1]
      walk_at "mir"
      by_cases h2 : x % 5 = 2
      · have b2 : (x % 5 == 2) = true := by simp [h2]
        rw [b2]
        walk_at "mir"
        rw [show (n : Int) + 4 = ((n + 4 : Nat) : Int) by omega, cut_to, cut_from, cut_mid, revD]
        walk_at "mir"
        rw [cat_ok (by simp; omega)]
        walk_at "mir"
        rw [cat_ok (by simp; omega)]
        walk_at "mir"
        exact ⟨zs.take n ++ ((zs.drop n).take (n + 4 - n)).reverse ++ zs.drop (n + 4), by simp; omega, some (.d (.int (n : Int))), by simp [List.map_take, List.map_drop, List.map_reverse]⟩
      · have b2 : (x % 5 == 2) = false := by rw [beq_eq_false_iff_ne]; exact h2
        rw [b2]
        walk_at "mir"
        by_cases h3 : x % 5 = 3
        · have b3 : (x % 5 == 3) = true := by simp [h3]
          rw [b3]
          walk_at "mir"
          rw [show (n : Int) + 3 = ((n + 3 : Nat) : Int) by omega, cut_to, cut_from, cut_mid, cat_ok (by simp; omega)]
          walk_at "mir"
          rw [cat_ok (by simp; omega)]
          walk_at "mir"
          exact ⟨zs.take n ++ (zs.drop n).take (n + 3 - n) ++ zs.drop n, by simp; omega, some (.d (.int (n : Int))), by simp [List.map_take, List.map_drop]⟩
        · have b3 : (x % 5 == 3) = false := by rw [beq_eq_false_iff_ne]; exact h3
          rw [b3]
          walk_at "mir"
          rw [cut_to, cut_from, cat_ok (by simp; omega)]
          walk_at "mir"
          exact ⟨zs.drop n ++ zs.take n, by simp; omega, some (.d (.int (n : Int))), by simp [List.map_take, List.map_drop]⟩
theorem m_lists (ns : List Int) : ∃ xs ys : List Ms, xs.length ≤ 40 ∧ ys.length ≤ 100 ∧ m__law_lists [.scr ns] = .ok (.frl [.lst (xs.map msgD), .lst (ys.map msgD)]) := by
  obtain ⟨n, hn⟩ : ∃ n : Nat, cellI ns 1 % 41 = (n : Int) := ⟨(cellI ns 1 % 41).toNat, by omega⟩
  obtain ⟨m, hm⟩ : ∃ n : Nat, cellI ns 3 % 5 = (n : Int) := ⟨(cellI ns 3 % 5).toNat, by omega⟩
  obtain ⟨r1, ⟨l1, _⟩, e1⟩ := m_row (cellI ns 0) n (by omega)
  obtain ⟨r2, ⟨l2, _⟩, e2⟩ := m_row (cellI ns 2) m (by omega)
  have c0 := m_cell ns 0
  have c1 := m_cell ns 1
  have c2 := m_cell ns 2
  have c3 := m_cell ns 3
  rw [show (((0 : Nat) : Int)) = 0 from rfl] at c0
  rw [show (((1 : Nat) : Int)) = 1 from rfl] at c1
  rw [show (((2 : Nat) : Int)) = 2 from rfl] at c2
  rw [show (((3 : Nat) : Int)) = 3 from rfl] at c3
  unfold m__law_lists
  walk_at "mir"
  rw [c0]
  walk_at "mir"
  rw [c1]
  walk_at "mir"
  try rw [oMod_int (by decide)]
  walk_at "mir"
  rw [hn, e1]
  walk_at "mir"
  have lc : lcF [1] (setD 1) bYes e__law_lists_1 [some (.d (.scr ns)), none, none, none, none] (r1.map D.int) = some (r1.map fun x => msgD (mkMs x)) := lc_map D.int (f := fun x => msgD (mkMs x)) (by omega) fun x hx => by
    unfold lcItem
    have e : setD 1 (D.int x) (wipeE [some (.d (.scr ns)), none, none, none, none] [1]) = some [some (.d (.scr ns)), some (.d (.int x)), none, none, none] := rfl
    rw [e]
    simp only [Option.bind_some, bYes, calm_ok, if_pos]
    rw [e_lists _ x rfl]
    rfl
  rw [lc]
  walk_at "mir"
  rw [c2]
  walk_at "mir"
  rw [c3]
  walk_at "mir"
  try rw [oMod_int (by decide)]
  walk_at "mir"
  rw [hm, e2]
  walk_at "mir"
  have el : cut ns (some 4) (some 9) = (ns.drop 4).take 5 := cut_mid ns 4 9
  rw [el, cat_ok (by simp; omega), ← List.map_append]
  walk_at "mir"
  have em : r1.map (fun x => msgD (mkMs x)) = (r1.map mkMs).map msgD := by rw [List.map_map]; rfl
  rw [em]
  have lt : (r2 ++ (ns.drop 4).take 5).length ≤ 9 := by simp; omega
  obtain ⟨⟨ys, j1, j4⟩, e, hl, _⟩ := for_map (gt := setD 1) (g := b__law_lists_1) D.int
    (fun (s : List Ms × Option S × Option S) => [some (S.d (D.scr ns)), s.2.1, some (S.d (D.lst ((r1.map mkMs).map msgD))), some (S.d (D.lst (s.1.map msgD))), s.2.2])
    (fun pre s => s.1.length ≤ 40 + 3 * pre.length ∧ pre.length ≤ 9) (r2 ++ (ns.drop 4).take 5) (r1.map mkMs, none, none) ⟨by simp; omega, by simp⟩ (by
    intro pre x post s hx hP
    obtain ⟨zs, j1, j4⟩ := s
    obtain ⟨hl, hp⟩ := hP
    simp only at hl
    have hpn : pre.length + 1 ≤ 9 := by
      rw [hx, List.length_append, List.length_cons] at lt
      omega
    obtain ⟨zs', l', j', e⟩ := edit_ok (.scr ns) (.lst ((r1.map mkMs).map msgD)) zs x j4 (by omega)
    exact ⟨_, (zs', some (.d (.int x)), j'), rfl, .inl e, by simp; omega, by simp; omega⟩)
  rw [e]
  walk_at "mir"
  simp only at hl
  refine ⟨r1.map mkMs, ys, by simp; omega, by omega, ?_⟩
  rfl

/-! #### the law's turn -/
theorem msgL_row {xs : List Ms} {ρ : DL.Env} {fe : DL.Env → R D} (hl : xs.length ≤ 1000) (hi : 9 < ρ.length) (hf : fe = eFz (lUn oList (getB 9))) :
    lcF [9] (setD 9) bYes fe ρ (xs.map msgD) = some (xs.map msgL) := by
  subst hf
  refine lc_map msgD (f := msgL) (by omega) fun x hx => ?_
  unfold lcItem
  have e : setD 9 (msgD x) (wipeE ρ [9]) = some ((wipeE ρ [9]).set 9 (some (.d (msgD x)))) := rfl
  rw [e]
  simp only [Option.bind_some, bYes, calm_ok, if_pos]
  have e2 : ((wipeE ρ [9]).set 9 (some (S.d (msgD x))))[9]? = some (some (.d (msgD x))) := List.getElem?_set_self (by rw [wipeE_length]; exact hi)
  simp only [eFz, lUn, getB, e2, R.bind_ok, show oList (msgD x) = some [.str (wd x.1), .int x.2] from rfl, R.of_some, R.map_ok, calm_ok, Option.map_some]
  rfl
theorem splD_eq (xs ys : List Ms) : EqD 4 (splD xs ys) := .tup fun d hd => by
  rcases List.mem_cons.mp hd with rfl | hd
  · exact .int _ _
  · rcases List.mem_cons.mp hd with rfl | hd
    · exact .int _ _
    · rcases List.mem_cons.mp hd with rfl | hd
      · exact (msgs_eqD _).mono (by decide)
      · cases hd
theorem givenD_eq (xs ys : List Ms) : EqD 4 (.lst [.lst (xs.map msgD), .lst (ys.map msgD)]) := .lst fun d hd => by
  rcases List.mem_cons.mp hd with rfl | hd
  · exact (msgs_eqD _).mono (by decide)
  · rcases List.mem_cons.mp hd with rfl | hd
    · exact (msgs_eqD _).mono (by decide)
    · cases hd
def gone (xs ys : List Ms) : List Ms := (xs.drop (spl xs ys).1).take (gonN xs ys)
theorem first_apart (xs ys : List Ms) (x y : Ms) (h1 : (gone xs ys)[0]? = some x) (h2 : (insd xs ys)[0]? = some y) : x ≠ y := by
  unfold gone at h1
  unfold insd at h2
  rw [List.getElem?_take] at h1 h2
  split at h1
  · split at h2
    · rw [List.getElem?_drop] at h1 h2
      rw [Nat.add_zero] at h1 h2
      exact cp_max xs ys x y h1 h2
    · cases h2
  · cases h1
theorem rev_at {α : Type} (zs : List α) (k : Nat) (h : k < zs.length) : zs.reverse[zs.length - 1 - k]? = zs[k]? := by
  rw [List.getElem?_reverse (by omega)]
  congr 1
  omega
theorem last_apart (xs ys : List Ms) (x y : Ms) (h1 : (gone xs ys)[(gone xs ys).length - 1]? = some x) (h2 : (insd xs ys)[(insd xs ys).length - 1]? = some y) : x ≠ y := by
  have hle := spl_le xs ys
  have l1 : (gone xs ys).length = gonN xs ys := by unfold gone; rw [List.length_take]; unfold gonN; omega
  have l2 : (insd xs ys).length = (ys.drop (spl xs ys).1).length - (spl xs ys).2 := by unfold insd; rw [List.length_take]; omega
  have p1 : 0 < gonN xs ys := by
    rcases Nat.eq_zero_or_pos (gonN xs ys) with z | z
    · rw [List.getElem?_eq_none (by omega)] at h1; cases h1
    · exact z
  have p2 : 0 < (ys.drop (spl xs ys).1).length - (spl xs ys).2 := by
    rcases Nat.eq_zero_or_pos ((ys.drop (spl xs ys).1).length - (spl xs ys).2) with z | z
    · rw [List.getElem?_eq_none (by omega)] at h2; cases h2
    · exact z
  rw [l1] at h1
  rw [l2] at h2
  unfold gone at h1
  unfold insd at h2
  rw [List.getElem?_take, if_pos (by omega)] at h1 h2
  unfold gonN at h1 p1
  have e1 := rev_at (xs.drop (spl xs ys).1) ((xs.drop (spl xs ys).1).length - (spl xs ys).2 - 1) (by omega)
  have e2 := rev_at (ys.drop (spl xs ys).1) ((ys.drop (spl xs ys).1).length - (spl xs ys).2 - 1) (by omega)
  rw [← e1, show (xs.drop (spl xs ys).1).length - 1 - ((xs.drop (spl xs ys).1).length - (spl xs ys).2 - 1) = (spl xs ys).2 by omega] at h1
  rw [← e2, show (ys.drop (spl xs ys).1).length - 1 - ((ys.drop (spl xs ys).1).length - (spl xs ys).2 - 1) = (spl xs ys).2 by omega] at h2
  exact cp_max _ _ x y h1 h2

end K22
namespace K22
open PySem PySem.Spec PyProof.Rows L2 DL
local macro_rules | `(tactic| walk_at "mir") => `(tactic| try simp (implicitDefEqProofs := false) only [runD, startE, endO, List.map_cons, List.map_nil, List.length_cons, List.length_nil, Nat.sub_self, Nat.reduceAdd, Nat.reduceSub, Nat.reduceMul, List.replicate, List.cons_append, List.nil_append, if_pos, R.bind_ok, R.of_some, R.map_ok, Option.bind_some, Option.map_some, withR_ok, seqO_nx, seqO_rt, List.set_cons_zero, List.set_cons_succ, List.getElem?_cons_zero, List.getElem?_cons_succ,
  eC, eOp, lOp, eCmp, bCmp, eNotInD, eUn, lUn, eIsi, eIsi2, eIf, eAnd, eOr, bAnd, bOr, bNot, bVal, eChain, bChain, pNone, pSome, lSl, eSlT, eSlR, aNil, aCons, eTup, lLst, eFz, eAttr, eCall, lCall, lLc, bYes, gsNil, gsCons, gT, iSeq, iR1, iR2, iZip2, iEnm, sNx, sSeq, sSet, sSetF, sSetFz, sAsg, sExpr, sRet, sRetF, sRetOwn, sRetN, sIf, sApp, sIns, sAug, sFor, sFrz, sFldM, sSetM, sPutD, eMelt, lMelt, eMake,
  getD, getB, slotL, slotD, slotM, freeze, setD, rowOf_tup, rowOf_lst, Ret_v_val, Ret_v_frl, Ret_f_frl, oItems_lst, oItems_tup, oIx_lst, oIx_tup, oIx_scr, oLen_lst, oLen_tup, oLen_scr, cInt_int, oAdd_int, oSub_int, oInt_int, oTuple_lst, oTuple_tup, oList_lst, oList_tup, oBl_bl, oNot_bl, oSlL_lst, oSlL_scr, oSlT_tup, oSlR_tup, oSlR_lst, oI_int, oAttr_obj, oAug_int, oSlR_scr, cEq_int, oSeq_lst, oSeq_tup, lcItem, calm_ok, cElt, wipeE, if_true, if_false, Bool.false_eq_true, Bool.true_eq_false, Bool.not_true, Bool.not_false, reduceCtorEq, mkL_ok, oMod_int, oDiv_int, oMul_int, oPow_10_18, Int.reduceLT, Int.reduceLE, Int.reduceNeg, Int.reducePow, Nat.reduceLeDiff, Nat.reduceLT, and_self, true_or, or_true, and_true, true_and, Nat.zero_le, Int.zero_add])
local macro_rules | `(tactic| walk_at "mir*") => `(tactic| try simp (implicitDefEqProofs := false) only [runD, startE, endO, List.map_cons, List.map_nil, List.length_cons, List.length_nil, Nat.sub_self, Nat.reduceAdd, Nat.reduceSub, Nat.reduceMul, List.replicate, List.cons_append, List.nil_append, if_pos, R.bind_ok, R.of_some, R.map_ok, Option.bind_some, Option.map_some, withR_ok, seqO_nx, seqO_rt, List.set_cons_zero, List.set_cons_succ, List.getElem?_cons_zero, List.getElem?_cons_succ,
  eC, eOp, lOp, eCmp, bCmp, eNotInD, eUn, lUn, eIsi, eIsi2, eIf, eAnd, eOr, bAnd, bOr, bNot, bVal, eChain, bChain, pNone, pSome, lSl, eSlT, eSlR, aNil, aCons, eTup, lLst, eFz, eAttr, eCall, lCall, lLc, bYes, gsNil, gsCons, gT, iSeq, iR1, iR2, iZip2, iEnm, sNx, sSeq, sSet, sSetF, sSetFz, sAsg, sExpr, sRet, sRetF, sRetOwn, sRetN, sIf, sApp, sIns, sAug, sFor, sFrz, sFldM, sSetM, sPutD, eMelt, lMelt, eMake,
  getD, getB, slotL, slotD, slotM, freeze, setD, rowOf_tup, rowOf_lst, Ret_v_val, Ret_v_frl, Ret_f_frl, oItems_lst, oItems_tup, oIx_lst, oIx_tup, oIx_scr, oLen_lst, oLen_tup, oLen_scr, cInt_int, oAdd_int, oSub_int, oInt_int, oTuple_lst, oTuple_tup, oList_lst, oList_tup, oBl_bl, oNot_bl, oSlL_lst, oSlL_scr, oSlT_tup, oSlR_tup, oSlR_lst, oI_int, oAttr_obj, oAug_int, oSlR_scr, cEq_int, oSeq_lst, oSeq_tup, lcItem, calm_ok, cElt, wipeE, if_true, if_false, Bool.false_eq_true, Bool.true_eq_false, Bool.not_true, Bool.not_false, reduceCtorEq, mkL_ok, oMod_int, oDiv_int, oMul_int, oPow_10_18, Int.reduceLT, Int.reduceLE, Int.reduceNeg, Int.reducePow, Nat.reduceLeDiff, Nat.reduceLT, and_self, true_or, or_true, and_true, true_and, Nat.zero_le, Int.zero_add, decide_true, decide_false, *])

theorem ne_false {d : D} {n : Nat} (h : EqD n d) (hn : n ≤ 64) : cNe d d = some false := cNe_self (h.mono hn)
theorem turn_ok (xs ys : List Ms) (a b : D) (hx : xs.length ≤ 200) (hy : ys.length ≤ 200) (j4 j5 j6 j7 j8 j9 : Option S) :
    ∃ k4 k5 k6 k7 k8 k9, b_law_1 [some (.d a), some (.d b), some (.d (.lst (xs.map msgD))), some (.d (.lst (ys.map msgD))), j4, j5, j6, j7, j8, j9] = some (.nx [some (.d a), some (.d b), some (.d (.lst (xs.map msgD))), some (.d (.lst (ys.map msgD))), k4, k5, k6, k7, k8, k9]) := by
  have hle := spl_le xs ys
  have hcp := cp_le xs ys
  have gx : Given (.lst (xs.map msgD)) xs := ⟨msgD, rfl, fun _ => rfl, by omega⟩
  have gy : Given (.lst (ys.map msgD)) ys := ⟨msgD, rfl, fun _ => rfl, by omega⟩
  have gl : Given (.lst (xs.map msgL)) xs := ⟨msgL, rfl, fun _ => rfl, by omega⟩
  have gt : Given (.tup (ys.map msgD)) ys := ⟨msgD, rfl, fun _ => rfl, by omega⟩
  have li : (insd xs ys).length ≤ 1000 := by unfold insd; simp; omega
  have i1 : ((xs.length : Int) - ((cp xs ys : Nat) : Int) - ((cp (xs.drop (cp xs ys)).reverse (ys.drop (cp xs ys)).reverse : Nat) : Int)) = ((gonN xs ys : Nat) : Int) := by
    have h1 : (xs.drop (spl xs ys).1).length = xs.length - cp xs ys := by rw [List.length_drop]; rfl
    have h2 : (spl xs ys).2 = cp (xs.drop (cp xs ys)).reverse (ys.drop (cp xs ys)).reverse := rfl
    unfold gonN
    omega
  have i2 : ((ys.length : Int) - ((cp (xs.drop (cp xs ys)).reverse (ys.drop (cp xs ys)).reverse : Nat) : Int)) = ((ys.length - (spl xs ys).2 : Nat) : Int) := by
    have h1 : (ys.drop (spl xs ys).1).length = ys.length - cp xs ys := by rw [List.length_drop]; rfl
    have h2 : (spl xs ys).2 = cp (xs.drop (cp xs ys)).reverse (ys.drop (cp xs ys)).reverse := rfl
    omega
  have i3 : ((ys.map msgD).drop (cp xs ys)).take (ys.length - (spl xs ys).2 - cp xs ys) = (insd xs ys).map msgD := by
    have h1 : (ys.drop (spl xs ys).1).length = ys.length - cp xs ys := by rw [List.length_drop]; rfl
    unfold insd
    rw [← List.map_drop, ← List.map_take, h1]
    rw [show ys.length - cp xs ys - (spl xs ys).2 = ys.length - (spl xs ys).2 - cp xs ys by omega]
    rfl
  have back : ((xs.take (spl xs ys).1 ++ insd xs ys ++ xs.drop ((spl xs ys).1 + gonN xs ys)).map msgD) = ys.map msgD := by rw [splice_back]
  have sp1 := m_spliced_ok (a := .lst (xs.map msgL)) (ch := .lst [.int ((spl xs ys).1 : Nat), .int (gonN xs ys : Nat), .lst ((insd xs ys).map msgD)]) _ _ _ gl li rfl
  have sp2 := m_spliced_ok (a := .lst (xs.map msgD)) (ch := splD xs ys) _ _ _ gx li rfl
  rw [back] at sp1 sp2
  have r2 : ∀ a0 a1 a2 a3 a4 a5 a6 a7 a8 a9 : Option S, lcF [9] (setD 9) bYes e_law_2 [a0, a1, a2, a3, a4, a5, a6, a7, a8, a9] (xs.map msgD) = some (xs.map msgL) := fun _ _ _ _ _ _ _ _ _ _ => msgL_row (by omega) (by simp) rfl
  have r1 : ∀ a0 a1 a2 a3 a4 a5 a6 a7 a8 a9 : Option S, lcF [9] (setD 9) bYes e_law_1 [a0, a1, a2, a3, a4, a5, a6, a7, a8, a9] (xs.map msgD) = some (xs.map msgL) := fun _ _ _ _ _ _ _ _ _ _ => msgL_row (by omega) (by simp) rfl
  unfold b_law_1
  walk_at "mir"
  rw [m_law_common xs ys (by omega) (by omega)]
  walk_at "mir"
  rw [cut_from, cut_from, revD, revD, ← List.map_drop, ← List.map_drop, ← List.map_reverse, ← List.map_reverse]
  walk_at "mir"
  rw [m_law_common _ _ (by simp; omega) (by simp; omega)]
  walk_at "mir"
  try rw [mkL_ok (by simp)]
  walk_at "mir"
  have a0 : atI [D.lst (xs.map msgD), D.lst (ys.map msgD)] 0 = some (.lst (xs.map msgD)) := rfl
  have a1 : atI [D.lst (xs.map msgD), D.lst (ys.map msgD)] 1 = some (.lst (ys.map msgD)) := rfl
  try rw [a0]
  try rw [a1]
  walk_at "mir"
  rw [m_splice_ok gx gy]
  walk_at "mir"
  have et : isB1 "tuple" (splD xs ys) = some true := isTuple_tup _
  rw [et]
  walk_at "mir"
  rw [List.length_map, List.length_map, i1, i2, cut_mid, i3]
  walk_at "mir"
  try rw [mkL_ok (by simp)]
  walk_at "mir"
  rw [show (D.tup [D.int ((cp xs ys : Nat) : Int), D.int ((gonN xs ys : Nat) : Int), D.lst ((insd xs ys).map msgD)]) = splD xs ys from rfl]
  rw [ne_false (splD_eq xs ys) (by decide)]
  walk_at "mir"
  rw [r2]
  walk_at "mir"
  rw [m_splice_ok gl gt]
  walk_at "mir"
  rw [ne_false (splD_eq xs ys) (by decide)]
  walk_at "mir"
  rw [r1]
  walk_at "mir"
  have el : oList (splD xs ys) = some [.int ((spl xs ys).1 : Nat), .int (gonN xs ys : Nat), .lst ((insd xs ys).map msgD)] := rfl
  rw [el]
  walk_at "mir"
  rw [sp1]
  walk_at "mir"
  rw [ne_false (msgs_eqD ys) (by decide)]
  walk_at "mir"
  try rw [mkL_ok (by simp)]
  walk_at "mir"
  rw [ne_false (givenD_eq xs ys) (by decide)]
  walk_at "mir"
  try rw [a0]
  walk_at "mir"
  rw [sp2]
  walk_at "mir"
  rw [ne_false (msgs_eqD ys) (by decide)]
  walk_at "mir"
  have ac : oIx (splD xs ys) (.int 1) = some (.int (gonN xs ys : Nat)) := rfl
  have ad : oIx (splD xs ys) (.int 2) = some (.lst ((insd xs ys).map msgD)) := rfl
  rw [ac]
  walk_at "mir"
  have eg : cut (xs.map msgD) (some ((cp xs ys : Nat) : Int)) (some (((cp xs ys : Nat) : Int) + ((gonN xs ys : Nat) : Int))) = (gone xs ys).map msgD := by
    rw [show (((cp xs ys : Nat) : Int) + ((gonN xs ys : Nat) : Int)) = ((cp xs ys + gonN xs ys : Nat) : Int) by omega, cut_mid, ← List.map_drop, ← List.map_take, Nat.add_sub_cancel_left]
    rfl
  rw [eg]
  walk_at "mir"
  rw [List.length_map]
  by_cases z1 : (gone xs ys).length = 0
  · rw [decide_eq_false (by omega)]
    walk_at "mir"
    exact ⟨_, _, _, _, _, _, rfl⟩
  rw [decide_eq_true (by omega)]
  walk_at "mir"
  rw [ad]
  walk_at "mir"
  rw [List.length_map]
  by_cases z2 : (insd xs ys).length = 0
  · rw [decide_eq_false (by omega)]
    walk_at "mir"
    exact ⟨_, _, _, _, _, _, rfl⟩
  rw [decide_eq_true (by omega)]
  walk_at "mir"
  obtain ⟨g0, k0⟩ : ∃ g, (gone xs ys)[0]? = some g := ⟨_, List.getElem?_eq_getElem (by omega)⟩
  obtain ⟨s0, k1⟩ : ∃ g, (insd xs ys)[0]? = some g := ⟨_, List.getElem?_eq_getElem (by omega)⟩
  obtain ⟨g1, k2⟩ : ∃ g, (gone xs ys)[(gone xs ys).length - 1]? = some g := ⟨_, List.getElem?_eq_getElem (by omega)⟩
  obtain ⟨s1, k3⟩ : ∃ g, (insd xs ys)[(insd xs ys).length - 1]? = some g := ⟨_, List.getElem?_eq_getElem (by omega)⟩
  have f0 : atI ((gone xs ys).map msgD) 0 = some (msgD g0) := by rw [show (0 : Int) = ((0 : Nat) : Int) from rfl, atI_ofNat, List.getElem?_map, k0]; rfl
  have f1 : atI ((insd xs ys).map msgD) 0 = some (msgD s0) := by rw [show (0 : Int) = ((0 : Nat) : Int) from rfl, atI_ofNat, List.getElem?_map, k1]; rfl
  have f2 : atI ((gone xs ys).map msgD) (-1) = some (msgD g1) := by rw [atI_last (by simp; omega), List.length_map, List.getElem?_map, k2]; rfl
  have f3 : atI ((insd xs ys).map msgD) (-1) = some (msgD s1) := by rw [atI_last (by simp; omega), List.length_map, List.getElem?_map, k3]; rfl
  rw [f0]
  walk_at "mir"
  try rw [ad]
  walk_at "mir"
  try rw [f1]
  walk_at "mir"
  rw [eq_msg, decide_eq_false (first_apart xs ys g0 s0 k0 k1)]
  walk_at "mir"
  have en : oNeg (.int 1) = some (.int (-1)) := rfl
  try rw [en]
  walk_at "mir"
  try rw [f2]
  walk_at "mir"
  try rw [ad]
  walk_at "mir"
  try rw [f3]
  walk_at "mir"
  rw [eq_msg, decide_eq_false (last_apart xs ys g1 s1 k2 k3)]
  walk_at "mir"
  exact ⟨_, _, _, _, _, _, rfl⟩
theorem law_math (ns : List Int) (_ : ns.length ≤ 63) : m_law [.scr ns] = .ok (.val (.bl true)) := by
  obtain ⟨xs, ys, lx, ly, e⟩ := m_lists ns
  unfold m_law
  walk_at "mir"
  rw [e]
  walk_at "mir"
  rw [revD]
  walk_at "mir"
  have a0 : atI [D.lst (xs.map msgD), D.lst (ys.map msgD)] 0 = some (.lst (xs.map msgD)) := rfl
  rw [a0]
  walk_at "mir"
  try rw [mkL_ok (by simp)]
  walk_at "mir"
  try rw [mkL_ok (by simp)]
  walk_at "mir"
  have ei : [D.lst [D.lst (xs.map msgD), D.lst (ys.map msgD)], D.lst [D.lst (xs.map msgD), D.lst (ys.map msgD)].reverse, D.lst [D.lst (xs.map msgD), D.lst (xs.map msgD)]] = [(xs, ys), (ys, xs), (xs, xs)].map fun p : List Ms × List Ms => D.lst [.lst (p.1.map msgD), .lst (p.2.map msgD)] := rfl
  rw [ei]
  obtain ⟨⟨p, j4, j5, j6, j7, j8, j9⟩, e2, _⟩ := for_map (gt := gT 2 (gsCons (setD 2) (gsCons (setD 3) gsNil))) (g := b_law_1) (fun p : List Ms × List Ms => D.lst [.lst (p.1.map msgD), .lst (p.2.map msgD)])
    (fun (s : (Option S × Option S) × Option S × Option S × Option S × Option S × Option S × Option S) => [some (S.d (D.scr ns)), some (S.d (D.lst [D.lst (xs.map msgD), D.lst (ys.map msgD)])), s.1.1, s.1.2, s.2.1, s.2.2.1, s.2.2.2.1, s.2.2.2.2.1, s.2.2.2.2.2.1, s.2.2.2.2.2.2])
    (fun _ _ => True) [(xs, ys), (ys, xs), (xs, xs)] ((none, none), none, none, none, none, none, none) trivial (by
    intro pre p post s hp _
    obtain ⟨⟨j2, j3⟩, j4, j5, j6, j7, j8, j9⟩ := s
    have hm : p ∈ [(xs, ys), (ys, xs), (xs, xs)] := by rw [hp]; simp
    have hb : p.1.length ≤ 200 ∧ p.2.length ≤ 200 := by
      simp only [List.mem_cons, List.not_mem_nil, or_false] at hm
      rcases hm with rfl | rfl | rfl <;> simp <;> omega
    obtain ⟨k4, k5, k6, k7, k8, k9, e⟩ := turn_ok p.1 p.2 (.scr ns) (.lst [D.lst (xs.map msgD), D.lst (ys.map msgD)]) hb.1 hb.2 j4 j5 j6 j7 j8 j9
    exact ⟨_, ((some (.d (.lst (p.1.map msgD))), some (.d (.lst (p.2.map msgD)))), k4, k5, k6, k7, k8, k9), rfl, .inl e, trivial⟩)
  rw [e2]
  walk_at "mir"

end K22
theorem PySem.Challenge.cw_piecetold_k22_splices_holds : PySem.Challenge.rw_piecetold_k22_splices.Holds := by
  exact K22_of K22.law_math
