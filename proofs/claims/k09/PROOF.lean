import PyProof.Rows.All
import Wide.All
import OpenK.AllK
import Wide.FinOn
import HandS.ForMost
import HandS.Walk
import HandS.WordsExc
import HandS.TryOnly
import HandS.TupAny
import HandS.TupLen
import HandS.IsInst
import HandS.Wide
import HandS.Zip
import HandS.More
import KE.KDictKeyed
import HandS.DictComp
import HandS.Strs
import HandS.TryMany
import HandS.ExcCtx
import HandS.Conv
import KE.GoesZip
import KE.GoesMore
import KE.GoesEnum
import HandS.Defaults
import HandS.Style
import HandS.Head0
import HandS.Head1
import HandS.Head2
import HandS.HeadEnd
import HandS.HeadHook1
import HandS.HeadHook2
import KE.KStateDown
import HandS.SetFor
import HandS.RaiseMore
import HandS.SortInts
import PySem.Challenge.RW_piecetold_k09_whole_one_deed_for_all
set_option Elab.async false
set_option linter.all false
set_option maxRecDepth 100000
set_option maxHeartbeats 0
/-! DL: data of any depth over the hand layer: what an expression makes of data, told by plain functions. -/
namespace DL
open PySem PySem.Spec PyProof.Rows L2

abbrev KF := PySem.W.Frag

/-- data: what a value is, whatever address it has -/
inductive D where
  | non
  | bl (b : Bool)
  | int (i : Int)
  | str (x : Str)
  | tup (xs : List D)
  | lst (xs : List D)
  | scr (ns : List Int)
  | dct (kvs : List (List Key × D))
  | obj (n : Str) (fs : List (Str × D))
  /-- a dict whose keys are ints and texts -/
  | dck (kvs : List (Key × D))
  /-- a dict whose keys are tuples of any depth, of the program P in the world w -/
  | dcx (P : Program) (w : World) (kvs : List (D × D))
  /-- a thing that may change, by its address -/
  | ptr (a : Addr)
mutual
/-- a tuple's key in a dict -/
def keyN : D → Option NestedKey
  | .non => some .none
  | .int i => some (.num i)
  | .str x => some (.text x)
  | .tup xs => (keyNs xs).map .tup
  | _ => none
def keyNs : List D → Option (List NestedKey)
  | [] => some []
  | d :: ds => (keyN d).bind fun k => (keyNs ds).map (k :: ·)
end
def keyX (d : D) : Option NestedKey := match d with
  | .tup xs => (keyN (.tup xs)).bind fun k => if k.depth ≤ 8 then some k else none
  | _ => none
/-- a dict with the keys ks, that stand at addresses -/
def DxR (P : Program) (w : World) (a : Addr) (es : List (NestedKey × Addr × V)) (h : Heap) : Prop :=
  (a == sysModules) = false ∧ ∃ xs : List (NestedKey × Addr × Value), Paired (fun (p : NestedKey × Addr × V) (q : NestedKey × Addr × Value) => p.1 = q.1 ∧ p.2.1 = q.2.1 ∧ RelV p.2.2 q.2.2) es xs ∧
    ∃ o ds ep, h.get? a = some o ∧ o.ExactDict ∧ o.data = .dict ds ep ∧ ds.toList = xs.map (entryOfKey (nestedKind P w)) ∧ (xs.map (·.1)).Nodup
def DxO (P : Program) (w : World) (a : Addr) (es : List (NestedKey × Addr × V)) : HO := .ext (DxR P w a es)

/-- C is the class under the name n; none of its attributes is an instance's own f -/
structure IsCls (K : KF) (n : Str) (C : Addr) (fs : List Str) : Prop where
  at_ : PySem.W.nsIn K mainGlobals n = some (some (.ref C))
  cls : Cls K C
  no : ∀ f, f ∈ fs → NoAttr K C f

theorem _root_.L2.Same.seqT {K : KF} {F F' : Hp} {a : Addr} {xs : List V} (s : Same F F') (h : SqT K F a xs) : SqT K F' a xs := by
  rcases h with h | h
  · rcases h with h | ⟨o, h⟩
    · exact .inl (.inl (s _ _ h))
    · exact .inl (.inr ⟨o, s _ _ h⟩)
  · exact .inr h
/-- the empty tuple of K -/
def KNil (K : KF) (a : Addr) : Prop := ∃ o its n, List.lookup a K = some o ∧ o.cls = Value.type "tuple" ∧ o.data = Data.seq its n ∧ its.size ≤ sizeLine ∧ Vals [] its.toList
/-- a tuple of F, or the empty tuple of K (a default) -/
def TupAt (K : KF) (F : Hp) (a : Addr) (vs : List V) : Prop := F a = some (.tup vs) ∨ (vs = [] ∧ KNil K a)
theorem TupAt.of {K : KF} {F : Hp} {a : Addr} {vs : List V} (h : F a = some (.tup vs)) : TupAt K F a vs := .inl h
theorem TupAt.up {K : KF} {F F' : Hp} {a : Addr} {vs : List V} (h : TupAt K F a vs) (s : Same F F') : TupAt K F' a vs := by
  rcases h with h | h
  · exact .inl (s _ _ h)
  · exact .inr h
theorem TupAt.sq {K : KF} {F : Hp} {a : Addr} {vs : List V} (h : TupAt K F a vs) : SqT K F a vs := by
  rcases h with h | ⟨rfl, h⟩
  · exact SqT.of h
  · exact .inr h
theorem TupAt.sq2 {K : KF} {F H : Hp} {a : Addr} {vs : List V} (h : TupAt K F a vs) (s : Same F H) : SqT K H a vs := (h.up s).sq
theorem TupAt.own {K : KF} {F : Hp} {a : Addr} {vs : List V} (h : TupAt K F a vs) (n : vs ≠ []) : F a = some (.tup vs) := by
  rcases h with h | ⟨h, _⟩
  · exact h
  · exact absurd h n
mutual
/-- v is the data d, by objects of F alone -/
inductive Rep (K : KF) (F : Hp) : V → D → Prop
  | non : Rep K F .non .non
  | bl (b : Bool) : Rep K F (.bl b) (.bl b)
  | int (i : Int) : Rep K F (.int i) (.int i)
  | str (x : Str) : Rep K F (.str x) (.str x)
  | tup {a : Addr} {vs : List V} {xs : List D} : TupAt K F a vs → RepL K F vs xs → Rep K F (.ref a) (.tup xs)
  | lst {a : Addr} {vs : List V} {xs : List D} : F a = some (.lst vs) → RepL K F vs xs → Rep K F (.ref a) (.lst xs)
  | scr {a : Addr} {ns : List Int} : SqL K F a (ns.map V.int) → Rep K F (.ref a) (.scr ns)
  | dct {a : Addr} {es : List (List Key × V)} {kvs : List (List Key × D)} : F a = some (.dT es) → RepK K F es kvs → Rep K F (.ref a) (.dct kvs)
  | obj {a C dx : Addr} {n : Str} {es : List (Str × V)} {fs : List (Str × D)} : F a = some (.ins C dx es) → IsCls K n C (fs.map (·.1)) → RepF K F es fs → Rep K F (.ref a) (.obj n fs)
  | dck {a : Addr} {es : List (Key × V)} {kvs : List (Key × D)} : F a = some (.dK es) → RepM K F es kvs → Rep K F (.ref a) (.dck kvs)
  | dcx {P : Program} {w : World} {a : Addr} {es : List (NestedKey × Addr × V)} {kvs : List (D × D)} : F a = some (DxO P w a es) → RepX K F es kvs → Rep K F (.ref a) (.dcx P w kvs)
  | ptr {a : Addr} : Rep K F (.ref a) (.ptr a)
inductive RepL (K : KF) (F : Hp) : List V → List D → Prop
  | nil : RepL K F [] []
  | cons {v : V} {vs : List V} {x : D} {xs : List D} : Rep K F v x → RepL K F vs xs → RepL K F (v :: vs) (x :: xs)
inductive RepF (K : KF) (F : Hp) : List (Str × V) → List (Str × D) → Prop
  | nil : RepF K F [] []
  | cons {f : Str} {v : V} {vs : List (Str × V)} {x : D} {xs : List (Str × D)} : Rep K F v x → RepF K F vs xs → RepF K F ((f, v) :: vs) ((f, x) :: xs)
inductive RepK (K : KF) (F : Hp) : List (List Key × V) → List (List Key × D) → Prop
  | nil : RepK K F [] []
  | cons {f : List Key} {v : V} {vs : List (List Key × V)} {x : D} {xs : List (List Key × D)} : Rep K F v x → RepK K F vs xs → RepK K F ((f, v) :: vs) ((f, x) :: xs)
inductive RepM (K : KF) (F : Hp) : List (Key × V) → List (Key × D) → Prop
  | nil : RepM K F [] []
  | cons {f : Key} {v : V} {vs : List (Key × V)} {x : D} {xs : List (Key × D)} : Rep K F v x → RepM K F vs xs → RepM K F ((f, v) :: vs) ((f, x) :: xs)
inductive RepX (K : KF) (F : Hp) : List (NestedKey × Addr × V) → List (D × D) → Prop
  | nil : RepX K F [] []
  | cons {k : NestedKey} {b : Addr} {v : V} {vs : List (NestedKey × Addr × V)} {x y : D} {xs : List (D × D)} : keyX y = some k → Rep K F (.ref b) y → Rep K F v x → RepX K F vs xs → RepX K F ((k, b, v) :: vs) ((y, x) :: xs)
end

section
variable {K : KF} {F F' H H' : Hp}
mutual
theorem Rep.up (s : Same F F') : ∀ (d : D) (v : V), Rep K F v d → Rep K F' v d
  | .non, _, h => by cases h; exact .non
  | .bl _, _, h => by cases h; exact .bl _
  | .int _, _, h => by cases h; exact .int _
  | .str _, _, h => by cases h; exact .str _
  | .tup xs, _, h => by cases h with | tup e r => exact .tup (e.up s) (RepL.up s xs _ r)
  | .lst xs, _, h => by cases h with | lst e r => exact .lst (s _ _ e) (RepL.up s xs _ r)
  | .scr ns, _, h => by cases h with | scr e => exact .scr (s.seq e)
  | .dct kvs, _, h => by cases h with | dct e r => exact .dct (s _ _ e) (RepK.up s kvs _ r)
  | .obj C fs, _, h => by cases h with | obj e c r => exact .obj (s _ _ e) c (RepF.up s fs _ r)
  | .dck kvs, _, h => by cases h with | dck e r => exact .dck (s _ _ e) (RepM.up s kvs _ r)
  | .dcx P w kvs, _, h => by cases h with | dcx e r => exact .dcx (s _ _ e) (RepX.up s kvs _ r)
  | .ptr a, _, h => by cases h; exact .ptr
theorem RepL.up (s : Same F F') : ∀ (ds : List D) (vs : List V), RepL K F vs ds → RepL K F' vs ds
  | [], _, h => by cases h; exact .nil
  | d :: ds, _, h => by cases h with | cons a b => exact .cons (Rep.up s d _ a) (RepL.up s ds _ b)
theorem RepF.up (s : Same F F') : ∀ (ds : List (Str × D)) (vs : List (Str × V)), RepF K F vs ds → RepF K F' vs ds
  | [], _, h => by cases h; exact .nil
  | (f, d) :: ds, _, h => by cases h with | cons a b => exact .cons (Rep.up s d _ a) (RepF.up s ds _ b)
theorem RepK.up (s : Same F F') : ∀ (ds : List (List Key × D)) (vs : List (List Key × V)), RepK K F vs ds → RepK K F' vs ds
  | [], _, h => by cases h; exact .nil
  | (f, d) :: ds, _, h => by cases h with | cons a b => exact .cons (Rep.up s d _ a) (RepK.up s ds _ b)
theorem RepM.up (s : Same F F') : ∀ (ds : List (Key × D)) (vs : List (Key × V)), RepM K F vs ds → RepM K F' vs ds
  | [], _, h => by cases h; exact .nil
  | (f, d) :: ds, _, h => by cases h with | cons a b => exact .cons (Rep.up s d _ a) (RepM.up s ds _ b)
theorem RepX.up (s : Same F F') : ∀ (ds : List (D × D)) (vs : List (NestedKey × Addr × V)), RepX K F vs ds → RepX K F' vs ds
  | [], _, h => by cases h; exact .nil
  | (y, x) :: ds, _, h => by cases h with | cons k a b c => exact .cons k (Rep.up s y _ a) (Rep.up s x _ b) (RepX.up s ds _ c)
end
theorem RepL.ne {vs : List V} {x : D} {xs : List D} (h : RepL K F vs (x :: xs)) : vs ≠ [] := by cases h; exact fun h => nomatch h
theorem Rep.mono {v : V} {d : D} (h : Rep K F v d) (s : Same F F') : Rep K F' v d := Rep.up s d v h
theorem RepL.mono {v : List V} {d : List D} (h : RepL K F v d) (s : Same F F') : RepL K F' v d := RepL.up s d v h
theorem RepK.mono {v : List (List Key × V)} {d : List (List Key × D)} (h : RepK K F v d) (s : Same F F') : RepK K F' v d := RepK.up s d v h
theorem RepM.mono {v : List (Key × V)} {d : List (Key × D)} (h : RepM K F v d) (s : Same F F') : RepM K F' v d := RepM.up s d v h
theorem RepX.mono {v : List (NestedKey × Addr × V)} {d : List (D × D)} (h : RepX K F v d) (s : Same F F') : RepX K F' v d := RepX.up s d v h
theorem RepF.mono {v : List (Str × V)} {d : List (Str × D)} (h : RepF K F v d) (s : Same F F') : RepF K F' v d := RepF.up s d v h

theorem RepL.len : ∀ {vs : List V} {ds : List D}, RepL K F vs ds → vs.length = ds.length
  | _, _, .nil => rfl
  | _, _, .cons _ t => by rw [List.length_cons, List.length_cons, RepL.len t]
theorem RepL.app : ∀ {vs ws : List V} {ds es : List D}, RepL K F vs ds → RepL K F ws es → RepL K F (vs ++ ws) (ds ++ es)
  | _, _, _, _, .nil, h => h
  | _, _, _, _, .cons a t, h => .cons a (RepL.app t h)
theorem RepL.get : ∀ {vs : List V} {ds : List D} {i : Nat} {d : D}, RepL K F vs ds → ds[i]? = some d → ∃ v, vs[i]? = some v ∧ Rep K F v d
  | _, _, _, _, .nil, e => by simp at e
  | _, _, 0, _, .cons a _, e => by simp at e; subst e; exact ⟨_, rfl, a⟩
  | _, _, i + 1, _, .cons _ t, e => by
    obtain ⟨v, h1, h2⟩ := RepL.get (i := i) t (by simpa using e)
    exact ⟨v, by simpa using h1, h2⟩
theorem RepL.getV : ∀ {vs : List V} {ds : List D} {i : Nat} {v : V}, RepL K F vs ds → vs[i]? = some v → ∃ d, ds[i]? = some d ∧ Rep K F v d
  | _, _, _, _, .nil, e => by simp at e
  | _, _, 0, _, .cons a _, e => by simp at e; subst e; exact ⟨_, rfl, a⟩
  | _, _, i + 1, _, .cons _ t, e => by
    obtain ⟨v, h1, h2⟩ := RepL.getV (i := i) t (by simpa using e)
    exact ⟨v, by simpa using h1, h2⟩
theorem RepL.take : ∀ {vs : List V} {ds : List D} (n : Nat), RepL K F vs ds → RepL K F (vs.take n) (ds.take n)
  | _, _, 0, _ => by simpa using .nil
  | _, _, _ + 1, .nil => .nil
  | _, _, n + 1, .cons a t => .cons a (RepL.take n t)
theorem RepL.drop : ∀ {vs : List V} {ds : List D} (n : Nat), RepL K F vs ds → RepL K F (vs.drop n) (ds.drop n)
  | _, _, 0, h => h
  | _, _, _ + 1, .nil => .nil
  | _, _, n + 1, .cons _ t => RepL.drop n t
theorem RepF.look : ∀ {vs : List (Str × V)} {ds : List (Str × D)} {f : Str} {d : D}, RepF K F vs ds → ds.lookup f = some d → ∃ v, vs.lookup f = some v ∧ Rep K F v d
  | _, _, _, _, .nil, e => by simp at e
  | _, _, f, d, .cons (f := g) a t, e => by
    rw [List.lookup_cons] at e ⊢
    cases hb : f == g with
    | true => rw [hb] at e; simp at e; subst e; exact ⟨_, rfl, a⟩
    | false => rw [hb] at e; exact RepF.look t e

theorem _root_.L2.Same.add {a : Addr} {o : HO} (h : H a = none) : Same H (upd H a o) := fun b u e => by rw [upd_ne (ne_of_none e h)]; exact e
theorem _root_.L2.Same.addBoth {a : Addr} {o : HO} (s : Same F H) : Same (upd F a o) (upd H a o) := fun b u e => by
  by_cases hb : b = a
  · subst hb; rw [upd_same] at e ⊢; exact e
  · rw [upd_ne hb] at e ⊢; exact s b u e
theorem _root_.L2.Same.out {a : Addr} (s : Same F H) (h : H a = none) : F a = none := by
  cases q : F a with
  | none => rfl
  | some o => rw [s a o q] at h; cases h

/-- from (F, H) to (F', H'): what was tracked stands; F, the part that never changes, has grown by new objects alone -/
structure Grow (F H F' H' : Hp) : Prop where
  hh : Same H H'
  ff : Same F F'
  fh : Same F' H'
  nn : ∀ a, H a ≠ none → F a = none → F' a = none
theorem Grow.refl (s : Same F H) : Grow F H F H := ⟨Same.refl _, Same.refl _, s, fun _ _ h => h⟩
theorem Grow.trans {F1 H1 F2 H2 : Hp} (a : Grow F H F1 H1) (b : Grow F1 H1 F2 H2) : Grow F H F2 H2 :=
  ⟨a.hh.trans b.hh, a.ff.trans b.ff, b.fh, fun x hx hf => b.nn x (fun e => hx (a.hh.free e)) (a.nn x hx hf)⟩
/-- a new object, for good -/
theorem Grow.new (s : Same F H) {p : Addr} {o : HO} (hp : H p = none) : Grow F H (upd F p o) (upd H p o) :=
  ⟨Same.add hp, Same.add (s.out hp), s.addBoth, fun a ha hf => by rw [upd_ne (fun e => ha (by rw [e]; exact hp))]; exact hf⟩
/-- a new object of one's own -/
theorem Grow.own (s : Same F H) {p : Addr} {o : HO} (hp : H p = none) : Grow F H F (upd H p o) :=
  ⟨Same.add hp, Same.refl _, s.trans (Same.add hp), fun _ _ hf => hf⟩
end

/-- what a name holds: data, or a list or dict of one's own that may still change -/
inductive S where
  | d (x : D)
  | ml (xs : List D)
  | md (kvs : List (List Key × D))
  | ob (a : Addr) (n : Str) (all : List Str) (fs : List (Str × D))
  /-- an error of the class c, at a, while it is handled -/
  | xc (a : Addr) (c : Str)
def S.own : S → Bool
  | .d _ => false
  | .xc _ _ => false
  | _ => true
abbrev Env := List (Option S)

def SlotOk (K : KF) (H0 F H : Hp) : S → V → Prop
  | .d x, v => Rep K F v x
  | .ml xs, v => ∃ a vs, v = .ref a ∧ H0 a = none ∧ F a = none ∧ H a = some (.lst vs) ∧ RepL K F vs xs
  | .md kvs, v => ∃ a es, v = .ref a ∧ H0 a = none ∧ F a = none ∧ H a = some (.dT es) ∧ RepK K F es kvs
  | .ob a0 n all fs, v => ∃ a C dx es, v = .ref a ∧ H0 a = none ∧ F a = none ∧ H a = some (.ins C dx es) ∧ RepF K F es fs ∧ IsCls K n C all ∧ (∀ f ∈ fs.map (·.1), f ∈ all) ∧ a = a0
  | .xc a _, v => v = .ref a

structure SL (K : KF) (F0 H0 : Hp) (ρ : Env) (σ : L2.St) (F H : Hp) : Prop where
  grow : Grow F0 H0 F H
  len : σ.length = ρ.length
  slot : ∀ (i : Nat) (s : S), ρ[i]? = some (some s) → ∃ v, σ[i]? = some (some v) ∧ SlotOk K H0 F H s v
  apart : ∀ (i j : Nat) (s t : S) (a : Addr), i ≠ j → ρ[i]? = some (some s) → ρ[j]? = some (some t) → s.own = true → t.own = true → σ[i]? = some (some (.ref a)) → σ[j]? ≠ some (some (.ref a))

section
variable {K : KF} {F0 H0 F H F' H' : Hp} {ρ : Env} {σ : L2.St}
theorem SL.sub (z : SL K F0 H0 ρ σ F H) : Same F H := z.grow.fh
theorem SlotOk.up {s : S} {v : V} (h : SlotOk K H0 F H s v) (g : Grow F H F' H') : SlotOk K H0 F' H' s v := by
  cases s with
  | d x => exact Rep.mono (show Rep K F v x from h) g.ff
  | ml xs =>
    obtain ⟨a, vs, e, h0, hf, hh, r⟩ := h
    exact ⟨a, vs, e, h0, g.nn a (by rw [hh]; simp) hf, g.hh _ _ hh, r.mono g.ff⟩
  | md xs =>
    obtain ⟨a, vs, e, h0, hf, hh, r⟩ := h
    exact ⟨a, vs, e, h0, g.nn a (by rw [hh]; simp) hf, g.hh _ _ hh, r.mono g.ff⟩
  | ob a0 n all fs =>
    obtain ⟨a, C, dx, es, e, h0, hf, hh, r, c⟩ := h
    exact ⟨a, C, dx, es, e, h0, g.nn a (by rw [hh]; simp) hf, g.hh _ _ hh, r.mono g.ff, c⟩
  | xc a c => exact h
theorem SL.up (z : SL K F0 H0 ρ σ F H) (g : Grow F H F' H') : SL K F0 H0 ρ σ F' H' :=
  ⟨z.grow.trans g, z.len, fun i s e => let ⟨v, h1, h2⟩ := z.slot i s e; ⟨v, h1, h2.up g⟩, z.apart⟩
end

/-- what a computation comes to -/
inductive R (α : Type) where
  | stuck
  | err (c : Str)
  | ok (a : α)
def R.bind {α β : Type} (r : R α) (f : α → R β) : R β := match r with
  | .stuck => .stuck
  | .err c => .err c
  | .ok a => f a
def R.map {α β : Type} (f : α → β) (r : R α) : R β := match r with
  | .stuck => .stuck
  | .err c => .err c
  | .ok a => .ok (f a)
@[simp] theorem R.bind_ok {α β : Type} (a : α) (f : α → R β) : (R.ok a).bind f = f a := rfl
@[simp] theorem R.bind_err {α β : Type} (c : Str) (f : α → R β) : (R.err c).bind f = .err c := rfl
@[simp] theorem R.bind_stuck {α β : Type} (f : α → R β) : (R.stuck).bind f = .stuck := rfl
@[simp] theorem R.map_ok {α β : Type} (a : α) (f : α → β) : (R.ok a).map f = .ok (f a) := rfl
@[simp] theorem R.map_err {α β : Type} (c : Str) (f : α → β) : (R.err c : R α).map f = .err c := rfl
@[simp] theorem R.map_stuck {α β : Type} (f : α → β) : (R.stuck : R α).map f = .stuck := rfl
/-- ok where c holds -/
def R.when {α : Type} (c : Prop) [Decidable c] (r : R α) : R α := if c then r else .stuck
theorem R.when_pos {α : Type} {c : Prop} [Decidable c] {r : R α} (h : c) : R.when c r = r := if_pos h
/-- the answer of a function in Option -/
def R.of {α : Type} : Option α → R α
  | some a => .ok a
  | none => .stuck
@[simp] theorem R.of_some {α : Type} (a : α) : R.of (some a) = .ok a := rfl
@[simp] theorem R.of_none {α : Type} : R.of (none : Option α) = .stuck := rfl

/-- what is wished of an exception of the class c -/
abbrev Wish := Str → L2.St → Hp → Prop
abbrev Rel (β α : Type) := Hp → Hp → Hp → Hp → β → α → Prop
def Post {β α : Type} (W : Wish) (r : Rel β α) (F H : Hp) (σ : L2.St) (x : R α) (Q : β → Hp → Prop) : Prop := match x with
  | .stuck => False
  | .err c => ∀ F' H', Grow F H F' H' → W c σ H'
  | .ok a => ∀ b F' H', Grow F H F' H' → r F H F' H' b a → Q b H'
def tG {β α : Type} (K : KF) (W : Wish) (r : Rel β α) (f : Env → R α) : L2.St → Hp → (β → Hp → Prop) → Prop := fun σ H Q =>
  ∃ F0 H0 ρ F, SL K F0 H0 ρ σ F H ∧ Post W r F H σ (f ρ) Q

/-- a list that is read: it may be one of one's own -/
inductive RepB (K : KF) (F H : Hp) : V → D → Prop
  | rep {v : V} {d : D} : Rep K F v d → RepB K F H v d
  | lst {a : Addr} {vs : List V} {xs : List D} : H a = some (.lst vs) → RepL K F vs xs → RepB K F H (.ref a) (.lst xs)
  | dct {a : Addr} {es : List (List Key × V)} {kvs : List (List Key × D)} : H a = some (.dT es) → RepK K F es kvs → RepB K F H (.ref a) (.dct kvs)
  | ins {a C dx : Addr} {n : Str} {es : List (Str × V)} {fs : List (Str × D)} : H a = some (.ins C dx es) → IsCls K n C (fs.map (·.1)) → RepF K F es fs → RepB K F H (.ref a) (.obj n fs)
def rV (K : KF) : Rel V D := fun _ _ F' _ v d => Rep K F' v d
def rB (K : KF) : Rel V D := fun _ _ F' H' v d => RepB K F' H' v d
def rF (K : KF) : Rel V (List D) := fun _ H F' H' v xs => ∃ a vs, v = .ref a ∧ H a = none ∧ F' a = none ∧ H' a = some (.lst vs) ∧ RepL K F' vs xs
def rT : Rel Bool Bool := fun _ _ _ _ b x => b = x
def rA (K : KF) : Rel (List V) (List D) := fun _ _ F' _ vs ds => RepL K F' vs ds

section
variable {K : KF} {W : Wish} {F H F' H' F1 H1 : Hp} {σ : L2.St} {v : V} {d : D}
theorem Rep.b (h : Rep K F v d) : RepB K F H v d := .rep h
theorem RepB.up (h : RepB K F H v d) (g : Grow F H F' H') : RepB K F' H' v d := by
  cases h with
  | rep h => exact .rep (h.mono g.ff)
  | lst h r => exact .lst (g.hh _ _ h) (r.mono g.ff)
  | dct h r => exact .dct (g.hh _ _ h) (r.mono g.ff)
  | ins h c r => exact .ins (g.hh _ _ h) c (r.mono g.ff)
theorem RepB.lst' {xs : List D} (h : RepB K F H v (.lst xs)) (s : Same F H) : ∃ a vs, v = .ref a ∧ H a = some (.lst vs) ∧ RepL K F vs xs := by
  cases h with
  | rep h => cases h with | lst e r => exact ⟨_, _, rfl, s _ _ e, r⟩
  | lst h r => exact ⟨_, _, rfl, h, r⟩
theorem RepB.dct' {ns : List (List Key × D)} (h : RepB K F H v (.dct ns)) (s : Same F H) : ∃ a es, v = .ref a ∧ H a = some (.dT es) ∧ RepK K F es ns := by
  cases h with
  | rep h => cases h with | dct e r => exact ⟨_, _, rfl, s _ _ e, r⟩
  | dct h r => exact ⟨_, _, rfl, h, r⟩
theorem RepB.tup {xs : List D} (h : RepB K F H v (.tup xs)) : ∃ a vs, v = .ref a ∧ TupAt K F a vs ∧ RepL K F vs xs := by
  cases h with | rep h => cases h with | tup e r => exact ⟨_, _, rfl, e, r⟩
theorem RepB.int {i : Int} (h : RepB K F H v (.int i)) : v = .int i := by
  cases h with | rep h => cases h; rfl
theorem RepB.bl {i : Bool} (h : RepB K F H v (.bl i)) : v = .bl i := by
  cases h with | rep h => cases h; rfl
theorem RepB.str {i : Str} (h : RepB K F H v (.str i)) : v = .str i := by
  cases h with | rep h => cases h; rfl
theorem RepB.non (h : RepB K F H v .non) : v = .non := by
  cases h with | rep h => cases h; rfl
theorem RepB.scr {ns : List Int} (h : RepB K F H v (.scr ns)) : ∃ a, v = .ref a ∧ SqL K F a (ns.map V.int) := by
  cases h with | rep h => cases h with | scr e => exact ⟨_, rfl, e⟩
theorem RepB.obj {n : Str} {fs : List (Str × D)} (h : RepB K F H v (.obj n fs)) (s : Same F H) : ∃ a C dx es, v = .ref a ∧ H a = some (.ins C dx es) ∧ IsCls K n C (fs.map (·.1)) ∧ RepF K F es fs := by
  cases h with
  | rep h => cases h with | obj e c r => exact ⟨_, _, _, _, rfl, s _ _ e, c, r⟩
  | ins e c r => exact ⟨_, _, _, _, rfl, e, c, r⟩

/-- relations whose start may be put earlier -/
def Rel.Early {β α : Type} (r : Rel β α) : Prop := ∀ F H F1 H1 F' H' b a, Grow F H F1 H1 → r F1 H1 F' H' b a → r F H F' H' b a
theorem rV_early : (rV K).Early := fun _ _ _ _ _ _ _ _ _ h => h
theorem rB_early : (rB K).Early := fun _ _ _ _ _ _ _ _ _ h => h
theorem rT_early : rT.Early := fun _ _ _ _ _ _ _ _ _ h => h
theorem rA_early : (rA K).Early := fun _ _ _ _ _ _ _ _ _ h => h
theorem rF_early : (rF K).Early := fun _ _ _ _ _ _ _ _ g ⟨a, vs, e, h, r⟩ => ⟨a, vs, e, g.hh.free h, r⟩
theorem Post.later {β α : Type} {r : Rel β α} {x : R α} {Q : β → Hp → Prop} (he : r.Early) (g : Grow F H F1 H1) (h : Post W r F H σ x Q) : Post W r F1 H1 σ x Q := by
  cases x with
  | stuck => exact h
  | err c => exact fun F' H' g' => h F' H' (g.trans g')
  | ok a => exact fun b F' H' g' hr => h b F' H' (g.trans g') (he _ _ _ _ _ _ _ _ g hr)

/-- THE BIND: first f, then what is done with its answer -/
theorem post_bind {β1 α1 β α : Type} {r1 : Rel β1 α1} {r : Rel β α} {F0 H0 : Hp} {ρ : Env} (z : SL K F0 H0 ρ σ F H) (he : r.Early) {f : Env → R α1} {g : α1 → R α} {Q : β → Hp → Prop} {k : β1 → Hp → Prop}
    (h : Post W r F H σ ((f ρ).bind g) Q)
    (hk : ∀ F1 H1 b x, SL K F0 H0 ρ σ F1 H1 → Grow F H F1 H1 → r1 F H F1 H1 b x → Post W r F1 H1 σ (g x) Q → k b H1) : tG K W r1 f σ H k := by
  refine ⟨F0, H0, ρ, F, z, ?_⟩
  cases e : f ρ with
  | stuck => rw [e] at h; exact h
  | err c => rw [e] at h; exact h
  | ok x =>
    rw [e] at h
    exact fun b F1 H1 g1 hr => hk F1 H1 b x (z.up g1) g1 hr (Post.later he g1 h)
theorem post_of {β α : Type} {r : Rel β α} {o : Option α} {Q : β → Hp → Prop} (h : Post W r F H σ (R.of o) Q) : ∃ a, o = some a ∧ ∀ b F' H', Grow F H F' H' → r F H F' H' b a → Q b H' := by
  cases o with
  | none => exact h.elim
  | some a => exact ⟨a, rfl, h⟩
theorem post_map {β γ α α' : Type} {r : Rel β α} {r' : Rel γ α'} {m : α → α'} {x : R α} {Q : γ → Hp → Prop} {k : β → Hp → Prop} (h : Post W r' F H σ (x.map m) Q) (hk : ∀ b a F' H', Grow F H F' H' → r F H F' H' b a → (∀ c, r' F H F' H' c (m a) → Q c H') → k b H') : Post W r F H σ x k := by
  cases x with
  | stuck => exact h
  | err c => exact h
  | ok a => exact fun b F' H' g hr => hk b a F' H' g hr fun c hc => h c F' H' g hc
theorem tG_of {β α : Type} {r : Rel β α} {f : Env → R α} {F0 H0 : Hp} {ρ : Env} {Q : β → Hp → Prop} (z : SL K F0 H0 ρ σ F H) (h : Post W r F H σ (f ρ) Q) : tG K W r f σ H Q := ⟨F0, H0, ρ, F, z, h⟩
end
theorem _root_.L2.PE.weak {X : Cx} {e : Expr} {t t' : TE} (h : PE X e t) (w : ∀ σ H Q, t' σ H Q → t σ H Q) : PE X e t' := ⟨fun pins s σ H Q I q => h.run pins s σ H Q I (w σ H Q q)⟩
theorem _root_.L2.PT.weak {X : Cx} {e : Expr} {t t' : TT} (h : PT X e t) (w : ∀ σ H Q, t' σ H Q → t σ H Q) : PT X e t' := ⟨fun pins s σ H Q I q => h.run pins s σ H Q I (w σ H Q q)⟩
theorem _root_.L2.PA.weak {X : Cx} {e : List Expr} {t t' : TA} (h : PA X e t) (w : ∀ σ H Q, t' σ H Q → t σ H Q) : PA X e t' := ⟨fun pos pins s σ H Q I q => h.run pos pins s σ H Q I (w σ H Q q)⟩
theorem _root_.L2.PS.weak {X : Cx} {e : Stmt} {t t' : TS} (h : PS X e t) (w : ∀ D σ H, t' D σ H → t D σ H) : PS X e t' := ⟨fun pins s σ H D I q => h.run pins s σ H D I (w D σ H q)⟩
theorem _root_.L2.PSs.weak {X : Cx} {e : List Stmt} {t t' : TS} (h : PSs X e t) (w : ∀ D σ H, t' D σ H → t D σ H) : PSs X e t' := ⟨fun pins s σ H D I q => h.run pins s σ H D I (w D σ H q)⟩
theorem _root_.L2.PI.weak {X : Cx} {tg e : Expr} {t t' : TI} (h : PI X tg e t) (w : ∀ σ H Q, t' σ H Q → t σ H Q) : PI X tg e t' := ⟨fun pins s σ H Q I q => h.run pins s σ H Q I (w σ H Q q)⟩

abbrev DV (X : Cx) (W : Wish) (e : Expr) (f : Env → R D) : Prop := PE X e (tG X.K W (rV X.K) f)
abbrev DB (X : Cx) (W : Wish) (e : Expr) (f : Env → R D) : Prop := PE X e (tG X.K W (rB X.K) f)
abbrev DF (X : Cx) (W : Wish) (e : Expr) (f : Env → R (List D)) : Prop := PE X e (tG X.K W (rF X.K) f)
abbrev DT (X : Cx) (W : Wish) (e : Expr) (f : Env → R Bool) : Prop := PT X e (tG X.K W rT f)
abbrev DA (X : Cx) (W : Wish) (es : List Expr) (f : Env → R (List D)) : Prop := PA X es (tG X.K W (rA X.K) f)
end DL
/-! DL2: the rules of expressions over data. -/
namespace DL
open PySem PySem.Spec PyProof.Rows L2

/-! ### reading data -/
def ints? : List D → Option (List Int)
  | [] => some []
  | .int i :: r => (ints? r).map (i :: ·)
  | _ => none
def strs? : List D → Option (List Str)
  | [] => some []
  | .str i :: r => (strs? r).map (i :: ·)
  | _ => none
def bls? : List D → Option (List Bool)
  | [] => some []
  | .bl i :: r => (bls? r).map (i :: ·)
  | _ => none
def keys? : List D → Option (List Key)
  | [] => some []
  | .int i :: r => (keys? r).map (Sum.inl i :: ·)
  | .str i :: r => (keys? r).map (Sum.inr i :: ·)
  | _ => none
@[simp] theorem ints_map (ns : List Int) : ints? (ns.map D.int) = some ns := by
  induction ns with
  | nil => rfl
  | cons a r ih => simp [ints?, ih]
@[simp] theorem strs_map (ns : List Str) : strs? (ns.map D.str) = some ns := by
  induction ns with
  | nil => rfl
  | cons a r ih => simp [strs?, ih]
@[simp] theorem bls_map (ns : List Bool) : bls? (ns.map D.bl) = some ns := by
  induction ns with
  | nil => rfl
  | cons a r ih => simp [bls?, ih]
section
variable {K : KF} {F H : Hp}
theorem RepL.ints {vs : List V} {ds : List D} {ns : List Int} (h : RepL K F vs ds) (e : ints? ds = some ns) : vs = ns.map V.int := by
  induction ds generalizing vs ns with
  | nil => cases h; simp [ints?] at e; subst e; rfl
  | cons d r ih =>
    cases h with
    | cons a t =>
      cases d <;> first | (cases e; done) | skip
      simp only [ints?, Option.map_eq_some_iff] at e
      obtain ⟨m, e1, e2⟩ := e
      subst e2
      cases a
      rw [ih t e1]; rfl
theorem RepL.strs {vs : List V} {ds : List D} {ns : List Str} (h : RepL K F vs ds) (e : strs? ds = some ns) : vs = ns.map V.str := by
  induction ds generalizing vs ns with
  | nil => cases h; simp [strs?] at e; subst e; rfl
  | cons d r ih =>
    cases h with
    | cons a t =>
      cases d <;> first | (cases e; done) | skip
      simp only [strs?, Option.map_eq_some_iff] at e
      obtain ⟨m, e1, e2⟩ := e
      subst e2
      cases a
      rw [ih t e1]; rfl
theorem RepL.bls {vs : List V} {ds : List D} {ns : List Bool} (h : RepL K F vs ds) (e : bls? ds = some ns) : vs = ns.map V.bl := by
  induction ds generalizing vs ns with
  | nil => cases h; simp [bls?] at e; subst e; rfl
  | cons d r ih =>
    cases h with
    | cons a t =>
      cases d <;> first | (cases e; done) | skip
      simp only [bls?, Option.map_eq_some_iff] at e
      obtain ⟨m, e1, e2⟩ := e
      subst e2
      cases a
      rw [ih t e1]; rfl
theorem RepL.keys {vs : List V} {ds : List D} {ns : List Key} (h : RepL K F vs ds) (e : keys? ds = some ns) : vs = ns.map kV := by
  induction ds generalizing vs ns with
  | nil => cases h; simp [keys?] at e; subst e; rfl
  | cons d r ih =>
    cases h with
    | cons a t =>
      cases d <;> first | (cases e; done) | skip
      · simp only [keys?, Option.map_eq_some_iff] at e
        obtain ⟨m, e1, e2⟩ := e
        subst e2
        cases a
        rw [ih t e1]; rfl
      · simp only [keys?, Option.map_eq_some_iff] at e
        obtain ⟨m, e1, e2⟩ := e
        subst e2
        cases a
        rw [ih t e1]; rfl
theorem RepL.ofInts : ∀ (ns : List Int), RepL K F (ns.map V.int) (ns.map D.int)
  | [] => .nil
  | _ :: r => .cons (.int _) (RepL.ofInts r)
theorem RepL.ofStrs : ∀ (ns : List Str), RepL K F (ns.map V.str) (ns.map D.str)
  | [] => .nil
  | _ :: r => .cons (.str _) (RepL.ofStrs r)
end

mutual
def D.py : D → Option PyData
  | .non => some .none
  | .bl b => some (.bool b)
  | .int i => some (.int i)
  | .str x => some (.str x)
  | .tup xs => (pys xs).map .tuple
  | .lst xs => (pys xs).map .list
  | _ => none
def pys : List D → Option (List PyData)
  | [] => some []
  | d :: ds => (D.py d).bind fun p => (pys ds).map fun q => p :: q
end
section
variable {K : KF} {F H : Hp}
mutual
theorem Rep.dp : ∀ (d : D) (v : V) (p : PyData), Rep K F v d → d.py = some p → Dp K F v p
  | .non, _, _, h, e => by cases h; simp [D.py] at e; subst e; exact .non
  | .bl _, _, _, h, e => by cases h; simp [D.py] at e; subst e; exact .bl _
  | .int _, _, _, h, e => by cases h; simp [D.py] at e; subst e; exact .int _
  | .str _, _, _, h, e => by cases h; simp [D.py] at e; subst e; exact .str _
  | .tup xs, _, _, h, e => by
    cases h with
    | tup f r =>
      simp only [D.py, Option.map_eq_some_iff] at e
      obtain ⟨q, e1, e2⟩ := e
      subst e2
      exact .tup f.sq (RepL.dp xs _ _ r e1)
  | .lst xs, _, _, h, e => by
    cases h with
    | lst f r =>
      simp only [D.py, Option.map_eq_some_iff] at e
      obtain ⟨q, e1, e2⟩ := e
      subst e2
      exact .lst (SqL.of f) (RepL.dp xs _ _ r e1)
  | .scr _, _, _, _, e => by simp [D.py] at e
  | .dct _, _, _, _, e => by simp [D.py] at e
  | .obj _ _, _, _, _, e => by simp [D.py] at e
  | .dck _, _, _, _, e => by simp [D.py] at e
  | .dcx _ _ _, _, _, _, e => by simp [D.py] at e
  | .ptr _, _, _, _, e => by simp [D.py] at e
theorem RepL.dp : ∀ (ds : List D) (vs : List V) (ps : List PyData), RepL K F vs ds → pys ds = some ps → DpAll K F vs ps
  | [], _, _, h, e => by cases h; simp [pys] at e; subst e; exact .nil
  | d :: ds, _, _, h, e => by
    cases h with
    | cons a b =>
      simp only [pys, Option.bind_eq_some_iff, Option.map_eq_some_iff] at e
      obtain ⟨p, e1, q, e2, e3⟩ := e
      subst e3
      exact .cons (Rep.dp d _ _ a e1) (RepL.dp ds _ _ b e2)
end
mutual
theorem Dp.up2 {F' : Hp} (s : Same F F') : ∀ (p : PyData) (v : V), Dp K F v p → Dp K F' v p
  | .none, _, h => by cases h; exact .non
  | .bool _, _, h => by cases h; exact .bl _
  | .int _, _, h => by cases h; exact .int _
  | .str _, _, h => by cases h; exact .str _
  | .list xs, _, h => by cases h with | lst e r => exact .lst (s.seq e) (DpAll.up2 s xs _ r)
  | .tuple xs, _, h => by
    cases h with
    | tup e r =>
      refine .tup ?_ (DpAll.up2 s xs _ r)
      rcases e with (e | ⟨o, e⟩) | e
      · exact .inl (.inl (s _ _ e))
      · exact .inl (.inr ⟨o, s _ _ e⟩)
      · exact .inr e
  | .dict _, _, h => by cases h
theorem DpAll.up2 {F' : Hp} (s : Same F F') : ∀ (p : List PyData) (v : List V), DpAll K F v p → DpAll K F' v p
  | [], _, h => by cases h; exact .nil
  | _ :: ps, _, h => by cases h with | cons a b => exact .cons (Dp.up2 s _ _ a) (DpAll.up2 s ps _ b)
end
theorem RepB.dp {v : V} {d : D} {p : PyData} (h : RepB K F H v d) (s : Same F H) (e : d.py = some p) : Dp K H v p := by
  cases h with
  | rep h => exact Dp.up2 s _ _ (Rep.dp d v p h e)
  | lst h r =>
    simp only [D.py, Option.map_eq_some_iff] at e
    obtain ⟨q, e1, e2⟩ := e
    subst e2
    exact .lst (SqL.of h) (DpAll.up2 s _ _ (RepL.dp _ _ _ r e1))
  | dct h r => simp [D.py] at e
  | ins h c r => simp [D.py] at e
end

/-! ### operations on data -/
def oAdd : D → D → Option D
  | .int i, .int j => some (.int (i + j))
  | .str a, .str b => if a.length + b.length ≤ 16777216 then some (.str (a ++ b)) else none
  | .tup xs, .tup ys => if xs.length + ys.length ≤ 16777216 then some (.tup (xs ++ ys)) else none
  | _, _ => none
def oCat : D → D → Option (List D)
  | .lst xs, .lst ys => if xs.length + ys.length ≤ 16777216 then some (xs ++ ys) else none
  | _, _ => none
def oSub : D → D → Option D
  | .int i, .int j => some (.int (i - j))
  | _, _ => none
def oMul : D → D → Option D
  | .int i, .int j => if (-(2 ^ 64) < i ∧ i < 2 ^ 64) ∨ (-(2 ^ 64) < j ∧ j < 2 ^ 64) then some (.int (i * j)) else none
  | _, _ => none
def oDiv : D → D → Option D
  | .int i, .int j => if 0 < j ∧ j < 1073741824 then some (.int (i / j)) else none
  | _, _ => none
def oMod : D → D → Option D
  | .int i, .int j => if 0 < j then some (.int (i % j)) else none
  | _, _ => none
def oPow : D → D → Option D
  | .int i, .int j => if 0 ≤ j ∧ j ≤ 1000000 ∧ i.natAbs < 2 ^ 64 then some (.int (i ^ j.toNat)) else none
  | _, _ => none
def cInt (p : Int → Int → Bool) : D → D → Option Bool
  | .int i, .int j => some (p i j)
  | _, _ => none
abbrev cLt := cInt fun i j => decide (i < j)
abbrev cLe := cInt fun i j => decide (i ≤ j)
abbrev cGt := cInt fun i j => decide (j < i)
abbrev cGe := cInt fun i j => decide (j ≤ i)
/-- == of data -/
def cEq (x y : D) : Option Bool := x.py.bind fun p => y.py.bind fun q => if (SeqAt.shaped p && SeqAt.shaped q) = true then some (PyData.eqv p q) else none
def cNe (x y : D) : Option Bool := (cEq x y).map (!·)
/-- a text among texts -/
def cInS : D → D → Option Bool
  | .str z, .lst xs => (strs? xs).map fun ys => ys.any (· == z)
  | .str z, .tup xs => (strs? xs).map fun ys => ys.any (· == z)
  | _, _ => none
def cNotInS (x y : D) : Option Bool := (cInS x y).map (!·)
/-- a sign in a text -/
def cInC : D → D → Option Bool
  | .str c, .str z => match c.cps.toList with
    | [k] => some (decide (k ∈ z.cps.toList))
    | _ => none
  | _, _ => none
def oIx : D → D → Option D
  | .lst xs, .int i => atI xs i
  | .tup xs, .int i => atI xs i
  | .scr ns, .int i => (atI ns i).map .int
  | .str z, .int i => if z.length ≤ 16777216 then (atI z.cps.toList i).map fun c => .str ⟨#[c]⟩ else none
  | _, _ => none
def look (kvs : List (List Key × D)) (k : List Key) : Option D := (kvs.find? fun kv => decide (kv.1 = k)).map (·.2)
def oGet : D → D → Option D
  | .dct kvs, .tup (k0 :: ks) => (keys? (k0 :: ks)).bind (look kvs)
  | _, _ => none
def cInD : D → D → Option Bool
  | .tup (k0 :: ks), .dct kvs => (keys? (k0 :: ks)).map fun k => (look kvs k).isSome
  | _, _ => none
def cut {α : Type} (xs : List α) (lo hi : Option Int) : List α := (xs.drop (HT.sIx xs.length 0 lo)).take (HT.sIx xs.length xs.length hi - HT.sIx xs.length 0 lo)
/-- a slice of a list (a new list), of a tuple -/
def oSlL : D → Option Int → Option Int → Option (List D)
  | .lst xs, lo, hi => some (cut xs lo hi)
  | .scr ns, lo, hi => some ((cut ns lo hi).map .int)
  | _, _, _ => none
def oSlT : D → Option Int → Option Int → Option D
  | .tup xs, lo, hi => some (.tup (cut xs lo hi))
  | _, _, _ => none
def oLen : D → Option D
  | .lst xs => some (.int xs.length)
  | .tup xs => some (.int xs.length)
  | .scr xs => some (.int xs.length)
  | .str z => if z.length ≤ 16777216 then some (.int z.length) else none
  | _ => none
def oLenD : D → Option D
  | .dct kvs => some (.int kvs.length)
  | _ => none
def oInt : D → Option D
  | .int i => some (.int i)
  | .bl k => some (.int (if k then 1 else 0))
  | _ => none
def oTuple : D → Option D
  | .lst xs => some (.tup xs)
  | .tup xs => some (.tup xs)
  | _ => none
def oList : D → Option (List D)
  | .lst xs => some xs
  | .tup xs => some xs
  | _ => none
def oRange : D → Option (List D)
  | .int n => if 0 ≤ n ∧ n ≤ 16777216 then some ((List.range n.toNat).map fun i => .int (i : Nat)) else none
  | _ => none
def insI (x : Int) : List Int → List Int
  | [] => [x]
  | y :: r => if x ≤ y then x :: y :: r else y :: insI x r
def sortI : List Int → List Int
  | [] => []
  | x :: r => insI x (sortI r)
def oSorted : D → Option (List D)
  | .lst xs => (ints? xs).bind fun ns => if ns.length < 64 then some ((sortI ns).map .int) else none
  | _ => none
def oAll : D → Option D
  | .lst xs => (bls? xs).map fun bs => .bl (bs.all id)
  | _ => none
def oNot : D → Option D
  | .bl b => some (.bl (!b))
  | _ => none
def oBl : D → Option Bool
  | .bl b => some b
  | _ => none
def oAttr (f : Str) : D → Option D
  | .obj _ fs => fs.lookup f
  | _ => none
/-- the type's name, of a value that is not of an own class -/
def tyN : D → Option String
  | .non => some "NoneType"
  | .bl _ => some "bool"
  | .int _ => some "int"
  | .str _ => some "str"
  | .tup _ => some "tuple"
  | .lst _ => some "list"
  | .dct _ => some "dict"
  | _ => none
/-- isinstance(x, T), isinstance(x, (T1, T2)) -/
def isB1 (n : String) (d : D) : Option Bool := (tyN d).bind fun t => kitB t n
def isBs : List String → D → Option Bool
  | [], _ => some false
  | n :: r, d => (isB1 n d).bind fun b => if b then some true else isBs r d

/-! ### names and constants -/
def getD (i : Nat) : Env → R D := fun ρ => match ρ[i]? with
  | some (some (.d x)) => .ok x
  | _ => .stuck
def getB (i : Nat) : Env → R D := fun ρ => match ρ[i]? with
  | some (some (.d x)) => .ok x
  | some (some (.ml xs)) => .ok (.lst xs)
  | some (some (.md xs)) => .ok (.dct xs)
  | some (some (.ob _ n _ fs)) => .ok (.obj n fs)
  | _ => .stuck

section
variable {X : Cx} {W : Wish} {a b c : Expr} {fa fb fc : Env → R D} {pos : Pos}
theorem dv_name (i : Nat) {x : Str} (h : PE X (.Name x pos) (tVar i)) : DV X W (.Name x pos) (getD i) := h.weak fun σ H Q ⟨F0, H0, ρ, F, z, h⟩ => by
  unfold getD at h
  split at h
  · rename_i x e
    obtain ⟨v, e1, r⟩ := z.slot i _ e
    exact ⟨v, e1, h v F H (Grow.refl z.sub) r⟩
  · exact h.elim
theorem db_name (i : Nat) {x : Str} (h : PE X (.Name x pos) (tVar i)) : DB X W (.Name x pos) (getB i) := h.weak fun σ H Q ⟨F0, H0, ρ, F, z, h⟩ => by
  unfold getB at h
  split at h
  · rename_i x e
    obtain ⟨v, e1, r⟩ := z.slot i _ e
    exact ⟨v, e1, h v F H (Grow.refl z.sub) (.rep r)⟩
  · rename_i xs e
    obtain ⟨v, e1, a, vs, e2, _, _, hh, r⟩ := z.slot i _ e
    subst e2
    exact ⟨_, e1, h _ F H (Grow.refl z.sub) (.lst hh r)⟩
  · rename_i xs e
    obtain ⟨v, e1, a, vs, e2, _, _, hh, r⟩ := z.slot i _ e
    subst e2
    exact ⟨_, e1, h _ F H (Grow.refl z.sub) (.dct hh r)⟩
  · rename_i a0 n all fs e
    obtain ⟨v, e1, a, C, dx, vs, e2, _, _, hh, r, c, ca, _⟩ := z.slot i _ e
    subst e2
    exact ⟨_, e1, h _ F H (Grow.refl z.sub) (.ins hh ⟨c.at_, c.cls, fun f hf => c.no f (ca f hf)⟩ r)⟩
  · exact h.elim
theorem dv_b {e : Expr} {f : Env → R D} (h : DV X W e f) : DB X W e f := h.weak fun σ H Q ⟨F0, H0, ρ, F, z, h⟩ => ⟨F0, H0, ρ, F, z, by
  cases q : f ρ with
  | stuck => rw [q] at h; exact h
  | err c => rw [q] at h; exact h
  | ok x => rw [q] at h; exact fun v F' H' g r => h v F' H' g (.rep r)⟩
/-- a new list, for good -/
theorem df_v {e : Expr} {f : Env → R (List D)} (h : DF X W e f) : DV X W e (fun ρ => (f ρ).map .lst) := h.weak fun σ H Q ⟨F0, H0, ρ, F, z, h⟩ => ⟨F0, H0, ρ, F, z, by
  have h : Post W (rV X.K) F H σ ((f ρ).map D.lst) Q := h
  cases q : f ρ with
  | stuck => rw [q] at h; exact h
  | err c => rw [q] at h; exact h
  | ok xs =>
    rw [q] at h
    rintro v F' H' g ⟨a, vs, rfl, h0, hf, hh, r⟩
    have up : Same F' (upd F' a (.lst vs)) := Same.add hf
    refine h (.ref a) (upd F' a (.lst vs)) H' ⟨g.hh, g.ff.trans up, fun b o e => ?_, fun b hb e => ?_⟩ (.lst upd_same (r.mono up))
    · by_cases hb : b = a
      · subst hb; rw [upd_same] at e; cases e; exact hh
      · rw [upd_ne hb] at e; exact g.fh b o e
    · rw [upd_ne (fun q => hb (by rw [q]; exact h0))]; exact g.nn b hb e⟩
theorem df_b {e : Expr} {f : Env → R (List D)} (h : DF X W e f) : DB X W e (fun ρ => (f ρ).map .lst) := dv_b (df_v h)
theorem dv_c {e : Expr} {v : V} {d : D} (h : PE X e (tC v)) (r : ∀ F : Hp, Rep X.K F v d) : DV X W e (fun _ => .ok d) := h.weak fun σ H Q ⟨F0, H0, ρ, F, z, h⟩ => h v F H (Grow.refl z.sub) (r F)
theorem dv_int {i j} : DV X W (.Constant (.int i) j pos) (fun _ => .ok (.int i)) := dv_c pe_int fun _ => .int _
theorem dv_bl {i j} : DV X W (.Constant (.bool i) j pos) (fun _ => .ok (.bl i)) := dv_c pe_bl fun _ => .bl _
theorem dv_non {j} : DV X W (.Constant .none j pos) (fun _ => .ok .non) := dv_c pe_non fun _ => .non
theorem dv_str {i j} : DV X W (.Constant (.str i) j pos) (fun _ => .ok (.str i)) := dv_c pe_str fun _ => .str _

/-! ### operators -/
theorem dv_op {op : Operator} {r : R2} {g : D → D → Option D} (ho : OpR X (binaryOp op) r)
    (hg : ∀ F H v u x y d (Q : VK), Same F H → RepB X.K F H v x → RepB X.K F H u y → g x y = some d → (∀ w F' H', Grow F H F' H' → Rep X.K F' w d → Q w H') → r v u H Q)
    (ha : DB X W a fa) (hb : DB X W b fb) : DV X W (.BinOp a op b pos) (fun ρ => (fa ρ).bind fun x => (fb ρ).bind fun y => R.of (g x y)) :=
  (pe_op ho ha hb).weak fun σ H Q ⟨F0, H0, ρ, F, z, h⟩ => post_bind z rV_early h fun F1 H1 v x z1 g1 r1 h => post_bind z1 rV_early h fun F2 H2 u y z2 g2 r2 h => by
    obtain ⟨d, e, h⟩ := post_of h
    exact hg F2 H2 v u x y d Q z2.sub (r1.up g2) r2 e h
theorem df_op {op : Operator} {r : R2} {g : D → D → Option (List D)} (ho : OpR X (binaryOp op) r)
    (hg : ∀ F H v u x y d (Q : VK), Same F H → RepB X.K F H v x → RepB X.K F H u y → g x y = some d → (∀ w F' H', Grow F H F' H' → rF X.K F H F' H' w d → Q w H') → r v u H Q)
    (ha : DB X W a fa) (hb : DB X W b fb) : DF X W (.BinOp a op b pos) (fun ρ => (fa ρ).bind fun x => (fb ρ).bind fun y => R.of (g x y)) :=
  (pe_op ho ha hb).weak fun σ H Q ⟨F0, H0, ρ, F, z, h⟩ => post_bind z rF_early h fun F1 H1 v x z1 g1 r1 h => post_bind z1 rF_early h fun F2 H2 u y z2 g2 r2 h => by
    obtain ⟨d, e, h⟩ := post_of h
    exact hg F2 H2 v u x y d Q z2.sub (r1.up g2) r2 e h
theorem fin_new {F H : Hp} {K : KF} {Q : VK} {d : D} (s : Same F H) (h : ∀ w F' H', Grow F H F' H' → Rep K F' w d → Q w H') {p : Addr} {o : HO} (hp : H p = none) (r : Same F (upd F p o) → Rep K (upd F p o) (.ref p) d) : Q (.ref p) (upd H p o) :=
  h _ _ _ (Grow.new s hp) (r (Same.add (s.out hp)))
theorem fin_own {F H : Hp} {K : KF} {Q : VK} {xs : List D} {vs : List V} (s : Same F H) (h : ∀ w F' H', Grow F H F' H' → rF K F H F' H' w xs → Q w H') {p : Addr} (hp : H p = none) (r : RepL K F vs xs) : Q (.ref p) (upd H p (.lst vs)) :=
  h _ _ _ (Grow.own s hp) ⟨p, vs, rfl, hp, s.out hp, upd_same, r⟩
theorem dv_add (ha : DB X W a fa) (hb : DB X W b fb) : DV X W (.BinOp a .Add b pos) (fun ρ => (fa ρ).bind fun x => (fb ρ).bind fun y => R.of (oAdd x y)) := by
  refine dv_op (op_add.or (op_add_str.or op_catA)) (fun F H v u x y d Q s r1 r2 e h => ?_) ha hb
  unfold oAdd at e
  split at e
  · cases e
    exact .inl ⟨_, _, r1.int, r2.int, h _ _ _ (Grow.refl s) (.int _)⟩
  · split at e
    · rename_i hl
      cases e
      exact .inr (.inl ⟨_, _, r1.str, r2.str, by rw [sizeLine_eq]; exact hl, h _ _ _ (Grow.refl s) (.str _)⟩)
    · cases e
  · split at e
    · rename_i xs ys hl
      cases e
      obtain ⟨a1, vs, rfl, f1, q1⟩ := r1.tup
      obtain ⟨a2, us, rfl, f2, q2⟩ := r2.tup
      refine .inr (.inr ⟨a1, a2, vs, us, rfl, rfl, f1.sq2 s, f2.sq2 s, by rw [sizeLine_eq, q1.len, q2.len]; exact hl, fun e => ?_, fun _ e => ?_, fun _ _ p hp => ?_⟩)
      · subst e
        cases q1
        exact h _ _ _ (Grow.refl s) (.tup f2 q2)
      · subst e
        cases q2
        rw [List.append_nil] at h
        exact h _ _ _ (Grow.refl s) (.tup f1 q1)
      · exact fin_new s h hp fun up => .tup (.of upd_same) ((q1.app q2).mono up)
    · cases e
  · cases e
theorem df_cat (ha : DB X W a fa) (hb : DB X W b fb) : DF X W (.BinOp a .Add b pos) (fun ρ => (fa ρ).bind fun x => (fb ρ).bind fun y => R.of (oCat x y)) := by
  refine df_op op_cat (fun F H v u x y d Q s r1 r2 e h => ?_) ha hb
  unfold oCat at e
  split at e
  · split at e
    · rename_i xs ys hl
      cases e
      obtain ⟨a1, vs, rfl, f1, q1⟩ := r1.lst' s
      obtain ⟨a2, us, rfl, f2, q2⟩ := r2.lst' s
      exact ⟨a1, a2, vs, us, rfl, rfl, f1, f2, by rw [sizeLine_eq, q1.len, q2.len]; exact hl, fun p hp => fin_own s h hp (q1.app q2)⟩
    · cases e
  · cases e
theorem dv_sub (ha : DB X W a fa) (hb : DB X W b fb) : DV X W (.BinOp a .Sub b pos) (fun ρ => (fa ρ).bind fun x => (fb ρ).bind fun y => R.of (oSub x y)) := by
  refine dv_op op_sub (fun F H v u x y d Q s r1 r2 e h => ?_) ha hb
  unfold oSub at e
  split at e
  · cases e; exact ⟨_, _, r1.int, r2.int, h _ _ _ (Grow.refl s) (.int _)⟩
  · cases e
theorem dv_mul (ha : DB X W a fa) (hb : DB X W b fb) : DV X W (.BinOp a .Mult b pos) (fun ρ => (fa ρ).bind fun x => (fb ρ).bind fun y => R.of (oMul x y)) := by
  refine dv_op op_mul (fun F H v u x y d Q s r1 r2 e h => ?_) ha hb
  unfold oMul at e
  split at e
  · split at e
    · rename_i hc
      cases e; exact ⟨_, _, r1.int, r2.int, hc, h _ _ _ (Grow.refl s) (.int _)⟩
    · cases e
  · cases e
theorem dv_div (ha : DB X W a fa) (hb : DB X W b fb) : DV X W (.BinOp a .FloorDiv b pos) (fun ρ => (fa ρ).bind fun x => (fb ρ).bind fun y => R.of (oDiv x y)) := by
  refine dv_op op_fdiv (fun F H v u x y d Q s r1 r2 e h => ?_) ha hb
  unfold oDiv at e
  split at e
  · split at e
    · rename_i hc
      cases e; exact ⟨_, _, r1.int, r2.int, hc, h _ _ _ (Grow.refl s) (.int _)⟩
    · cases e
  · cases e
theorem dv_mod (ha : DB X W a fa) (hb : DB X W b fb) : DV X W (.BinOp a .Mod b pos) (fun ρ => (fa ρ).bind fun x => (fb ρ).bind fun y => R.of (oMod x y)) := by
  refine dv_op op_mod (fun F H v u x y d Q s r1 r2 e h => ?_) ha hb
  unfold oMod at e
  split at e
  · split at e
    · rename_i hc
      cases e; exact ⟨_, _, r1.int, r2.int, hc, h _ _ _ (Grow.refl s) (.int _)⟩
    · cases e
  · cases e
theorem dv_pow (ha : DB X W a fa) (hb : DB X W b fb) : DV X W (.BinOp a .Pow b pos) (fun ρ => (fa ρ).bind fun x => (fb ρ).bind fun y => R.of (oPow x y)) := by
  refine dv_op op_pow (fun F H v u x y d Q s r1 r2 e h => ?_) ha hb
  unfold oPow at e
  split at e
  · split at e
    · rename_i hc
      cases e; exact ⟨_, _, r1.int, r2.int, hc, h _ _ _ (Grow.refl s) (.int _)⟩
    · cases e
  · cases e

/-! ### comparisons -/
/-- a comparison's rule over data -/
def CmpD (X : Cx) (r : R2) (g : D → D → Option Bool) : Prop := ∀ F H v u x y k (Q : VK), Same F H → RepB X.K F H v x → RepB X.K F H u y → g x y = some k → Q (.bl k) H → r v u H Q
theorem dv_cmp {op : CmpOp} {r : R2} {g : D → D → Option Bool} (ho : OpR X (compareOp op) r) (hg : CmpD X r g) (ha : DB X W a fa) (hb : DB X W b fb) (hm : behindInMarks op b = false) :
    DV X W (.Compare a [op] [b] pos) (fun ρ => (fa ρ).bind fun x => (fb ρ).bind fun y => R.of ((g x y).map .bl)) :=
  (pe_cmpR ho ha hb hm).weak fun σ H Q ⟨F0, H0, ρ, F, z, h⟩ => post_bind z rV_early h fun F1 H1 v x z1 g1 r1 h => post_bind z1 rV_early h fun F2 H2 u y z2 g2 r2 h => by
    obtain ⟨d, e, h⟩ := post_of h
    obtain ⟨k, e1, e2⟩ := Option.map_eq_some_iff.mp e
    subst e2
    exact hg F2 H2 v u x y k Q z2.sub (r1.up g2) r2 e1 (h _ _ _ (Grow.refl z2.sub) (.bl k))
theorem dt_cmp {op : CmpOp} {r : R2} {g : D → D → Option Bool} (ho : OpR X (compareOp op) r) (hg : CmpD X r g) (ha : DB X W a fa) (hb : DB X W b fb) (hm : behindInMarks op b = false) :
    DT X W (.Compare a [op] [b] pos) (fun ρ => (fa ρ).bind fun x => (fb ρ).bind fun y => R.of (g x y)) :=
  (pt_cmpR ho ha hb hm).weak fun σ H Q ⟨F0, H0, ρ, F, z, h⟩ => post_bind z rT_early h fun F1 H1 v x z1 g1 r1 h => post_bind z1 rT_early h fun F2 H2 u y z2 g2 r2 h => by
    obtain ⟨k, e, h⟩ := post_of h
    exact hg F2 H2 v u x y k _ z2.sub (r1.up g2) r2 e ⟨k, rfl, h _ _ _ (Grow.refl z2.sub) rfl⟩
theorem cd_int {p : Int → Int → Bool} : CmpD X (rI0 fun i j => .bl (p i j)) (cInt p) := fun F H v u x y k Q s r1 r2 e h => by
  unfold cInt at e
  split at e
  · cases e; exact ⟨_, _, r1.int, r2.int, h⟩
  · cases e
theorem cd_eq : CmpD X (rEqD X.K) cEq := fun F H v u x y k Q s r1 r2 e h => by
  unfold cEq at e
  simp only [Option.bind_eq_some_iff] at e
  obtain ⟨p, e1, q, e2, e3⟩ := e
  split at e3
  · rename_i hs
    cases e3
    obtain ⟨s1, s2⟩ := Bool.and_eq_true_iff.mp hs
    exact ⟨p, q, r1.dp s e1, r2.dp s e2, s1, s2, h⟩
  · cases e3
theorem cd_ne : CmpD X (rNeD X.K) cNe := fun F H v u x y k Q s r1 r2 e h => by
  unfold cNe cEq at e
  simp only [Option.map_eq_some_iff, Option.bind_eq_some_iff] at e
  obtain ⟨b, ⟨p, e1, q, e2, e3⟩, e4⟩ := e
  split at e3
  · rename_i hs
    cases e3
    subst e4
    obtain ⟨s1, s2⟩ := Bool.and_eq_true_iff.mp hs
    exact ⟨p, q, r1.dp s e1, r2.dp s e2, s1, s2, h⟩
  · cases e3
theorem inV_strs (z : Str) : ∀ ys : List Str, inV (.str z) (ys.map V.str) = ys.any (· == z)
  | [] => rfl
  | y :: r => by
    show (eqV (.str y) (.str z) || inV (.str z) (r.map V.str)) = _
    rw [inV_strs z r, List.any_cons]; rfl
theorem flat_strs2 : ∀ ys : List Str, (ys.map V.str).all flatV = true
  | [] => rfl
  | y :: r => by rw [List.map_cons, List.all_cons, flat_strs2 r]; rfl
theorem cd_inS : CmpD X (rIn X.K false) cInS := fun F H v u x y k Q s r1 r2 e h => by
  unfold cInS at e
  split at e
  · obtain ⟨ys, e1, e2⟩ := Option.map_eq_some_iff.mp e
    obtain ⟨a, vs, rfl, f, q⟩ := r2.lst' s
    have ev := q.strs e1
    have ex := r1.str
    subst ev ex e2
    refine ⟨a, _, rfl, .inl (SqL.of f), rfl, flat_strs2 _, ?_⟩
    rw [inV_strs]; exact h
  · obtain ⟨ys, e1, e2⟩ := Option.map_eq_some_iff.mp e
    obtain ⟨a, vs, rfl, f, q⟩ := r2.tup
    have ev := q.strs e1
    have ex := r1.str
    subst ev ex e2
    refine ⟨a, _, rfl, .inr ((f.sq2 s)), rfl, flat_strs2 _, ?_⟩
    rw [inV_strs]; exact h
  · cases e
theorem cd_notInS : CmpD X (rIn X.K true) cNotInS := fun F H v u x y k Q s r1 r2 e h => by
  unfold cNotInS cInS at e
  split at e
  · obtain ⟨b, e1, e2⟩ := Option.map_eq_some_iff.mp e
    obtain ⟨ys, e3, e4⟩ := Option.map_eq_some_iff.mp e1
    obtain ⟨a, vs, rfl, f, q⟩ := r2.lst' s
    have ev := q.strs e3
    have ex := r1.str
    subst ev ex e4 e2
    refine ⟨a, _, rfl, .inl (SqL.of f), rfl, flat_strs2 _, ?_⟩
    rw [inV_strs]; exact h
  · obtain ⟨b, e1, e2⟩ := Option.map_eq_some_iff.mp e
    obtain ⟨ys, e3, e4⟩ := Option.map_eq_some_iff.mp e1
    obtain ⟨a, vs, rfl, f, q⟩ := r2.tup
    have ev := q.strs e3
    have ex := r1.str
    subst ev ex e4 e2
    refine ⟨a, _, rfl, .inr ((f.sq2 s)), rfl, flat_strs2 _, ?_⟩
    rw [inV_strs]; exact h
  · cases e
theorem cd_inC : CmpD X (fun x y H Q => ∃ (c : Nat) (z : Str), x = .str ⟨#[c]⟩ ∧ y = .str z ∧ Q (.bl (decide (c ∈ z.cps.toList))) H) cInC := fun F H v u x y k Q s r1 r2 e h => by
  unfold cInC at e
  split at e
  · rename_i c z
    split at e
    · rename_i k' e'
      cases e
      have ex := r1.str
      have ey := r2.str
      refine ⟨k', z, ?_, ey, h⟩
      rw [ex]
      obtain ⟨cs⟩ := c
      have : cs = #[k'] := by rw [← Array.toList_inj]; exact e'
      rw [this]
    · cases e
  · cases e
end
end DL
/-! DL3: tests, items, slices, displays, calls, attributes. -/
namespace DL
open PySem PySem.Spec PyProof.Rows L2

abbrev DW (X : Cx) (W : Wish) (e : Expr) (f : Env → R Bool) : Prop := PW X e (tG X.K W rT f)
section
variable {X : Cx} {W : Wish} {a b c e : Expr} {fa fb fc : Env → R D} {ta tb tc : Env → R Bool} {pos : Pos} {rest : List Expr}
theorem post_if {β α : Type} {r : Rel β α} {F H : Hp} {σ : L2.St} {k : Bool} {x y : R α} {Q : β → Hp → Prop} {A B : Prop} (h : Post W r F H σ (if k = true then x else y) Q) (h1 : Post W r F H σ x Q → A) (h2 : Post W r F H σ y Q → B) : if k = true then A else B := by
  cases k with
  | true => exact h1 h
  | false => exact h2 h
theorem pwWeak {t t' : TT} (h : PW X e t) (w : ∀ σ H Q, t' σ H Q → t σ H Q) : PW X e t' := ⟨fun wh pins s σ H Q I q => h.run wh pins s σ H Q I (w σ H Q q)⟩
/-- the value as a test -/
theorem dt_val (h : DB X W e fa) (he : ∀ whole, isTrue e X.env whole = (do let v ← whole; standAt e.pos; holding [v] (truthy v)) := by intro _; rfl) : DT X W e (fun ρ => (fa ρ).bind fun x => R.of (oBl x)) :=
  (pt_val h he).weak fun σ H Q ⟨F0, H0, ρ, F, z, h⟩ => post_bind z rT_early h fun F1 H1 v x z1 g1 r1 h => by
    obtain ⟨k, e, hQ⟩ := post_of h
    clear h
    have h := hQ
    clear hQ
    unfold oBl at e
    split at e
    · cases e
      exact ⟨_, r1.bl, h _ _ _ (Grow.refl z1.sub) rfl⟩
    · cases e
theorem dw_and1 (h : DT X W a ta) : DW X W (.BoolOp .And [a] pos) ta := pw_and1 h
theorem dw_or1 (h : DT X W a ta) : DW X W (.BoolOp .Or [a] pos) ta := pw_or1 h
theorem dw_and (ha : DT X W a ta) (hb : DW X W (.BoolOp .And (b :: rest) pos) tb) : DW X W (.BoolOp .And (a :: b :: rest) pos) (fun ρ => (ta ρ).bind fun k => if k = true then tb ρ else .ok false) :=
  pwWeak (pw_and ha hb) fun σ H Q ⟨F0, H0, ρ, F, z, h⟩ => post_bind z rT_early h fun F1 H1 k x z1 g1 r1 h => by
    cases r1
    exact post_if h (fun h => ⟨F0, H0, ρ, F1, z1, h⟩) fun h => h _ _ _ (Grow.refl z1.sub) rfl
theorem dw_or (ha : DT X W a ta) (hb : DW X W (.BoolOp .Or (b :: rest) pos) tb) : DW X W (.BoolOp .Or (a :: b :: rest) pos) (fun ρ => (ta ρ).bind fun k => if k = true then .ok true else tb ρ) :=
  pwWeak (pw_or ha hb) fun σ H Q ⟨F0, H0, ρ, F, z, h⟩ => post_bind z rT_early h fun F1 H1 k x z1 g1 r1 h => by
    cases r1
    exact post_if h (fun h => h _ _ _ (Grow.refl z1.sub) rfl) fun h => ⟨F0, H0, ρ, F1, z1, h⟩
theorem dt_not (ha : DT X W a ta) : DT X W (.UnaryOp .Not a pos) (fun ρ => (ta ρ).bind fun k => .ok (!k)) :=
  (pt_not ha).weak fun σ H Q ⟨F0, H0, ρ, F, z, h⟩ => post_bind z rT_early h fun F1 H1 k x z1 g1 r1 h => by
    cases r1
    exact h _ _ _ (Grow.refl z1.sub) rfl
/-- .. as values -/
theorem dv_one {op} (h : DV X W a fa) : DV X W (.BoolOp op [a] pos) fa := pe_one h
theorem dv_and (ha : DB X W a fa) (hb : DV X W (.BoolOp .And (b :: rest) pos) fb) : DV X W (.BoolOp .And (a :: b :: rest) pos) (fun ρ => (fa ρ).bind fun x => (R.of (oBl x)).bind fun k => if k = true then fb ρ else .ok (.bl false)) :=
  (pe_and ha hb).weak fun σ H Q ⟨F0, H0, ρ, F, z, h⟩ => post_bind z rV_early h fun F1 H1 v x z1 g1 r1 h => by
    cases x <;> first | exact h.elim | skip
    rename_i k
    exact ⟨k, r1.bl, post_if (show Post W (rV X.K) F1 H1 σ (if k = true then fb ρ else .ok (.bl false)) Q from h) (fun h => ⟨F0, H0, ρ, F1, z1, h⟩) fun h => h _ _ _ (Grow.refl z1.sub) (.bl _)⟩
theorem dv_or (ha : DB X W a fa) (hb : DV X W (.BoolOp .Or (b :: rest) pos) fb) : DV X W (.BoolOp .Or (a :: b :: rest) pos) (fun ρ => (fa ρ).bind fun x => (R.of (oBl x)).bind fun k => if k = true then .ok (.bl true) else fb ρ) :=
  (pe_or ha hb).weak fun σ H Q ⟨F0, H0, ρ, F, z, h⟩ => post_bind z rV_early h fun F1 H1 v x z1 g1 r1 h => by
    cases x <;> first | exact h.elim | skip
    rename_i k
    exact ⟨k, r1.bl, post_if (show Post W (rV X.K) F1 H1 σ (if k = true then .ok (.bl true) else fb ρ) Q from h) (fun h => h _ _ _ (Grow.refl z1.sub) (.bl _)) fun h => ⟨F0, H0, ρ, F1, z1, h⟩⟩
theorem dv_not (ha : DB X W a fa) : DV X W (.UnaryOp .Not a pos) (fun ρ => (fa ρ).bind fun x => R.of (oNot x)) :=
  (pe_not ha).weak fun σ H Q ⟨F0, H0, ρ, F, z, h⟩ => post_bind z rV_early h fun F1 H1 v x z1 g1 r1 h => by
    obtain ⟨k, e, hQ⟩ := post_of h
    clear h
    have h := hQ
    clear hQ
    unfold oNot at e
    split at e
    · cases e
      exact ⟨_, r1.bl, h _ _ _ (Grow.refl z1.sub) (.bl _)⟩
    · cases e
theorem pe_ifG {α : Type} {r : Rel V α} (he : r.Early) {fa fb : Env → R α} (hc : DT X W c tc) (ha : PE X a (tG X.K W r fa)) (hb : PE X b (tG X.K W r fb)) : PE X (.IfExp c a b pos) (tG X.K W r (fun ρ => (tc ρ).bind fun k => if k = true then fa ρ else fb ρ)) :=
  (pe_ifExp hc ha hb).weak fun σ H Q ⟨F0, H0, ρ, F, z, h⟩ => post_bind z he h fun F1 H1 k x z1 g1 r1 h => by
    cases r1
    exact post_if h (fun h => ⟨F0, H0, ρ, F1, z1, h⟩) fun h => ⟨F0, H0, ρ, F1, z1, h⟩
theorem dv_if (hc : DT X W c tc) (ha : DV X W a fa) (hb : DV X W b fb) : DV X W (.IfExp c a b pos) (fun ρ => (tc ρ).bind fun k => if k = true then fa ρ else fb ρ) := pe_ifG rV_early hc ha hb
/-- a op1 b op2 c -/
theorem dv_chain {op op' : CmpOp} {r r' : R2} {g g' : D → D → Option Bool} (ho : OpR X (compareOp op) r) (ho' : OpR X (compareOp op') r') (hg : CmpD X r g) (hg' : CmpD X r' g') (ha : DB X W a fa) (hb : DB X W b fb) (hc : DB X W c fc)
    (hm : lastMarks [op, op'] [b, c] = false := by with_unfolding_all rfl) :
    DV X W (.Compare a [op, op'] [b, c] pos) (fun ρ => (fa ρ).bind fun x => (fb ρ).bind fun y => (R.of (g x y)).bind fun k => if k = true then (fc ρ).bind fun w => R.of ((g' y w).map .bl) else .ok (.bl false)) :=
  (pe_chain ho ho' ha hb hc hm).weak fun σ H Q ⟨F0, H0, ρ, F, z, h⟩ => post_bind z rV_early h fun F1 H1 v x z1 g1 r1 h => post_bind z1 rV_early h fun F2 H2 u y z2 g2 r2 h => by
    cases e : g x y with
    | none => rw [e] at h; exact h.elim
    | some k =>
      rw [e] at h
      refine hg F2 H2 v u x y k _ z2.sub (r1.up g2) r2 e ⟨k, rfl, ?_⟩
      refine post_if (show Post W (rV X.K) F2 H2 σ (if k = true then (fc ρ).bind fun w => R.of ((g' y w).map .bl) else .ok (.bl false)) Q from h) (fun h => post_bind z2 rV_early h fun F3 H3 w t z3 g3 r3 h => ?_) fun h => h _ _ _ (Grow.refl z2.sub) (.bl _)
      obtain ⟨d, e2, hQ⟩ := post_of h
      clear h
      have h := hQ
      clear hQ
      obtain ⟨k', e3, e4⟩ := Option.map_eq_some_iff.mp e2
      subst e4
      exact hg' F3 H3 u w y t k' Q z3.sub (r2.up g3) r3 e3 (h _ _ _ (Grow.refl z3.sub) (.bl _))
theorem dt_chain {op op' : CmpOp} {r r' : R2} {g g' : D → D → Option Bool} (ho : OpR X (compareOp op) r) (ho' : OpR X (compareOp op') r') (hg : CmpD X r g) (hg' : CmpD X r' g') (ha : DB X W a fa) (hb : DB X W b fb) (hc : DB X W c fc)
    (hm : lastMarks [op, op'] [b, c] = false := by with_unfolding_all rfl) :
    DT X W (.Compare a [op, op'] [b, c] pos) (fun ρ => (fa ρ).bind fun x => (fb ρ).bind fun y => (R.of (g x y)).bind fun k => if k = true then (fc ρ).bind fun w => R.of (g' y w) else .ok false) :=
  (pt_chain ho ho' ha hb hc hm).weak fun σ H Q ⟨F0, H0, ρ, F, z, h⟩ => post_bind z rT_early h fun F1 H1 v x z1 g1 r1 h => post_bind z1 rT_early h fun F2 H2 u y z2 g2 r2 h => by
    cases e : g x y with
    | none => rw [e] at h; exact h.elim
    | some k =>
      rw [e] at h
      refine hg F2 H2 v u x y k _ z2.sub (r1.up g2) r2 e ⟨k, rfl, ?_⟩
      refine post_if (show Post W rT F2 H2 σ (if k = true then (fc ρ).bind fun w => R.of (g' y w) else .ok false) Q from h) (fun h => post_bind z2 rT_early h fun F3 H3 w t z3 g3 r3 h => ?_) fun h => ⟨false, rfl, h _ _ _ (Grow.refl z2.sub) rfl⟩
      obtain ⟨k', e3, h⟩ := post_of h
      exact hg' F3 H3 u w y t k' _ z3.sub (r2.up g3) r3 e3 ⟨k', rfl, h _ _ _ (Grow.refl z3.sub) rfl⟩

/-! ### items, slices -/
theorem atI_rep {K : KF} {F : Hp} {vs : List V} {xs : List D} {i : Int} {d : D} (q : RepL K F vs xs) (e : atI xs i = some d) : ∃ v, atI vs i = some v ∧ Rep K F v d := by
  unfold atI at e ⊢
  rw [q.len]
  obtain ⟨j, e1, e2⟩ := Option.bind_eq_some_iff.mp e
  obtain ⟨v, h1, h2⟩ := q.get e2
  exact ⟨v, by rw [e1]; exact h1, h2⟩
theorem atI_map {α β : Type} (f : α → β) (xs : List α) (i : Int) : atI (xs.map f) i = (atI xs i).map f := by
  unfold atI
  rw [List.length_map]
  cases ixN xs.length i with
  | none => rfl
  | some j => simp
theorem dv_ix (ha : DB X W a fa) (hb : DB X W b fb) (hs : PlainIx b := by exact fun _ _ => rfl) : DV X W (.Subscript a b pos) (fun ρ => (fa ρ).bind fun x => (fb ρ).bind fun y => R.of (oIx x y)) :=
  (pe_ix ix_seq ha hb hs).weak fun σ H Q ⟨F0, H0, ρ, F, z, h⟩ => post_bind z rV_early h fun F1 H1 v x z1 g1 r1 h => post_bind z1 rV_early h fun F2 H2 u y z2 g2 r2 h => by
    obtain ⟨d, e, hQ⟩ := post_of h
    clear h
    have h := hQ
    clear hQ
    have r1 := r1.up g2
    have s := z2.sub
    have fin : ∀ w, Rep X.K F2 w d → Q w H2 := fun w r => h _ _ _ (Grow.refl s) r
    unfold oIx at e
    split at e
    · obtain ⟨p, vs, rfl, f, q⟩ := r1.lst' s
      obtain ⟨w, e1, rw⟩ := atI_rep q e
      exact .inl ⟨p, vs, _, w, rfl, r2.int, SqL.of f, e1, fin w rw⟩
    · obtain ⟨p, vs, rfl, f, q⟩ := r1.tup
      obtain ⟨w, e1, rw⟩ := atI_rep q e
      exact .inr (.inl ⟨p, vs, _, w, rfl, r2.int, (f.sq2 s), e1, fin w rw⟩)
    · rename_i ns i
      obtain ⟨p, rfl, f⟩ := r1.scr
      obtain ⟨n, e1, e2⟩ := Option.map_eq_some_iff.mp e
      subst e2
      exact .inl ⟨p, _, _, .int n, rfl, r2.int, s.seq f, by rw [atI_map, e1]; rfl, fin _ (.int n)⟩
    · split at e
      · rename_i hl
        obtain ⟨n, e1, e2⟩ := Option.map_eq_some_iff.mp e
        subst e2
        exact .inr (.inr ⟨_, _, n, r1.str, r2.int, by rw [sizeLine_eq]; exact hl, e1, fin _ (.str _)⟩)
      · cases e
    · cases e
theorem look_rep {K : KF} {F : Hp} {k : List Key} : ∀ {es : List (List Key × V)} {kvs : List (List Key × D)}, RepK K F es kvs → (∀ d, look kvs k = some d → ∃ v, valV es k = some v ∧ Rep K F v d) ∧ (valV es k).isSome = (look kvs k).isSome
  | _, _, .nil => ⟨fun d e => by simp [look] at e, rfl⟩
  | _, _, .cons (f := f) (v := v) (x := x) a t => by
    obtain ⟨h1, h2⟩ := look_rep (k := k) t
    by_cases e : f = k
    · have q1 : ∀ {α : Type} {p : List Key × α} {r}, p.1 = k → ((p :: r).find? fun kv => decide (kv.1 = k)) = some p := fun e => by simp [List.find?_cons, e]
      refine ⟨fun d hd => ?_, ?_⟩
      · unfold look at hd
        rw [q1 e] at hd
        cases hd
        exact ⟨v, by unfold valV; rw [q1 e]; rfl, a⟩
      · unfold look valV
        rw [q1 e, q1 e]; rfl
    · have q1 : ∀ {α : Type} {p : List Key × α} {r}, ¬ p.1 = k → ((p :: r).find? fun kv => decide (kv.1 = k)) = r.find? fun kv => decide (kv.1 = k) := fun e => by simp [List.find?_cons, e]
      refine ⟨fun d hd => ?_, ?_⟩
      · unfold look at hd
        rw [q1 e] at hd
        obtain ⟨w, e1, e2⟩ := h1 d hd
        exact ⟨w, by unfold valV; rw [q1 e]; exact e1, e2⟩
      · unfold look valV
        rw [q1 e, q1 e]; exact h2
/-- d[k], a dict whose keys are tuples -/
theorem dv_get (hu : X.A.units + 1 < cLine) (ha : DB X W a fa) (hb : DV X W b fb) (hs : NoSl b := by exact fun _ _ => rfl) : DV X W (.Subscript a b pos) (fun ρ => (fa ρ).bind fun x => (fb ρ).bind fun y => R.of (oGet x y)) :=
  (pe_dget hu ha hb hs).weak fun σ H Q ⟨F0, H0, ρ, F, z, h⟩ => post_bind z rV_early h fun F1 H1 v x z1 g1 r1 h => post_bind z1 rV_early h fun F2 H2 u y z2 g2 r2 h => by
    obtain ⟨d, e, hF⟩ := post_of h
    have r1 := r1.up g2
    have s := z2.sub
    unfold oGet at e
    split at e
    · obtain ⟨ks, e1, e2⟩ := Option.bind_eq_some_iff.mp e
      obtain ⟨p, es, rfl, f, q⟩ := r1.dct' s
      obtain ⟨p2, vs, rfl, f2, q2⟩ := RepB.tup (H := H2) (.rep r2)
      have nv := q2.ne
      have ev := q2.keys e1
      subst ev
      obtain ⟨w, e3, rw⟩ := (look_rep q).1 d e2
      exact ⟨p, w, rfl, by rw [← e3]; exact DGet.t f (s _ _ (f2.own nv)), hF _ _ _ (Grow.refl s) rw⟩
    · cases e
theorem dt_inD (hu : X.A.units + 1 < cLine) (hb : DV X W b fb) (ha : DB X W a fa) (h1 : behindInMarks .In a = false := by rfl) : DT X W (.Compare b [.In] [a] pos) (fun ρ => (fb ρ).bind fun y => (fa ρ).bind fun x => R.of (cInD y x)) :=
  (pt_cmp (pc_din hu hb ha) h1).weak fun σ H Q ⟨F0, H0, ρ, F, z, h⟩ => post_bind z rT_early h fun F1 H1 u y z1 g1 r2 h => post_bind z1 rT_early h fun F2 H2 v x z2 g2 r1 h => by
    obtain ⟨d, e, hF⟩ := post_of h
    have r2 : Rep X.K F2 u y := Rep.mono r2 g2.ff
    have s := z2.sub
    unfold cInD at e
    split at e
    · obtain ⟨ks, e1, e2⟩ := Option.map_eq_some_iff.mp e
      obtain ⟨p, es, rfl, f, q⟩ := r1.dct' s
      obtain ⟨p2, vs, rfl, f2, q2⟩ := RepB.tup (H := H2) (.rep r2)
      have nv := q2.ne
      have ev := q2.keys e1
      subst ev e2
      refine ⟨p, valV es ks, rfl, DGet.t f (s _ _ (f2.own nv)), _, rfl, ?_⟩
      rw [(look_rep q).2]
      exact hF _ _ _ (Grow.refl s) rfl
    · cases e
theorem dv_notInD (hu : X.A.units + 1 < cLine) (hb : DV X W b fb) (ha : DB X W a fa) (h1 : behindInMarks .NotIn a = false := by rfl) : DV X W (.Compare b [.NotIn] [a] pos) (fun ρ => (fb ρ).bind fun y => (fa ρ).bind fun x => R.of ((cInD y x).map fun k => .bl (!k))) :=
  (pe_cmp (pc_dnotin hu hb ha) h1).weak fun σ H Q ⟨F0, H0, ρ, F, z, h⟩ => post_bind z rV_early h fun F1 H1 u y z1 g1 r2 h => post_bind z1 rV_early h fun F2 H2 v x z2 g2 r1 h => by
    obtain ⟨d, e, hF⟩ := post_of h
    obtain ⟨k, e, e'⟩ := Option.map_eq_some_iff.mp e
    have r2 : Rep X.K F2 u y := Rep.mono r2 g2.ff
    have s := z2.sub
    unfold cInD at e
    split at e
    · obtain ⟨ks, e1, e2⟩ := Option.map_eq_some_iff.mp e
      obtain ⟨p, es, rfl, f, q⟩ := r1.dct' s
      obtain ⟨p2, vs, rfl, f2, q2⟩ := RepB.tup (H := H2) (.rep r2)
      have nv := q2.ne
      have ev := q2.keys e1
      subst ev e2 e'
      refine ⟨p, valV es ks, rfl, DGet.t f (s _ _ (f2.own nv)), ?_⟩
      rw [(look_rep q).2]
      exact hF _ _ _ (Grow.refl s) (.bl _)
    · cases e

def rP : Rel (Option Int) (Option Int) := fun _ _ _ _ b x => b = x
theorem poWeak {e : Option Expr} {t t' : TO} (h : PO X e t) (w : ∀ σ H Q, t' σ H Q → t σ H Q) : PO X e t' := ⟨fun pins s σ H Q I q => h.run pins s σ H Q I (w σ H Q q)⟩
abbrev DP (X : Cx) (W : Wish) (e : Option Expr) (f : Env → R (Option Int)) : Prop := PO X e (tG X.K W rP f)
def oI : D → Option (Option Int)
  | .int i => some (some i)
  | _ => none
theorem dp_none : DP X W none (fun _ => .ok none) := poWeak po_none fun σ H Q ⟨F0, H0, ρ, F, z, h⟩ => h _ _ _ (Grow.refl z.sub) rfl
theorem dp_some (h : DB X W e fa) : DP X W (some e) (fun ρ => (fa ρ).bind fun x => R.of (oI x)) := poWeak (po_some h) fun σ H Q ⟨F0, H0, ρ, F, z, h⟩ => post_bind z (show rP.Early from fun _ _ _ _ _ _ _ _ _ h => h) h fun F1 H1 v x z1 g1 r1 h => by
  obtain ⟨k, e, hQ⟩ := post_of h
  clear h
  have h := hQ
  clear hQ
  unfold oI at e
  split at e
  · cases e
    exact ⟨_, r1.int, h _ _ _ (Grow.refl z1.sub) rfl⟩
  · cases e
variable {lo hi : Option Expr} {fl fh : Env → R (Option Int)} {p2 : Pos}
theorem RepL.cut {K : KF} {F : Hp} {vs : List V} {xs : List D} (q : RepL K F vs xs) (lo hi : Option Int) : RepL K F (cutV vs lo hi) (cut xs lo hi) := by
  unfold cutV DL.cut
  rw [q.len]
  exact (q.drop _).take _
theorem cut_map {α β : Type} (f : α → β) (xs : List α) (lo hi : Option Int) : cut (xs.map f) lo hi = (cut xs lo hi).map f := by
  unfold cut
  rw [List.length_map, List.map_take, List.map_drop]
theorem cutV_ints (ns : List Int) (lo hi : Option Int) : cutV (ns.map V.int) lo hi = (cut ns lo hi).map V.int := cut_map V.int ns lo hi
theorem df_slice (ha : DB X W a fa) (hl : DP X W lo fl) (hh : DP X W hi fh) : DF X W (.Subscript a (.Slice lo hi none p2) pos) (fun ρ => (fa ρ).bind fun x => (fl ρ).bind fun l => (fh ρ).bind fun u => R.of (oSlL x l u)) :=
  (pe_slice sl_list ha hl hh).weak fun σ H Q ⟨F0, H0, ρ, F, z, h⟩ => post_bind z rF_early h fun F1 H1 v x z1 g1 r1 h => post_bind z1 rF_early h fun F2 H2 l l' z2 g2 r2 h => post_bind z2 rF_early h fun F3 H3 u u' z3 g3 r3 h => by
    cases r2
    cases r3
    obtain ⟨d, e, hQ⟩ := post_of h
    clear h
    have h := hQ
    clear hQ
    have r1 := (r1.up g2).up g3
    have s := z3.sub
    unfold oSlL at e
    split at e
    · cases e
      obtain ⟨p, vs, rfl, f, q⟩ := r1.lst' s
      exact ⟨p, vs, rfl, SqL.of f, fun p hp => fin_own s h hp (q.cut _ _)⟩
    · cases e
      obtain ⟨p, rfl, f⟩ := r1.scr
      rename_i ns
      refine ⟨p, _, rfl, s.seq f, fun p hp => fin_own s h hp ?_⟩
      rw [cutV_ints]
      exact RepL.ofInts _
    · cases e
theorem cut_all {α : Type} (xs : List α) (lo hi : Option Int) (h : HT.sIx xs.length 0 lo = 0 ∧ HT.sIx xs.length xs.length hi = xs.length) : cut xs lo hi = xs := by
  unfold cut
  rw [h.1, h.2]
  simp
theorem dv_sliceT (ha : DB X W a fa) (hl : DP X W lo fl) (hh : DP X W hi fh) : DV X W (.Subscript a (.Slice lo hi none p2) pos) (fun ρ => (fa ρ).bind fun x => (fl ρ).bind fun l => (fh ρ).bind fun u => R.of (oSlT x l u)) :=
  (pe_slice sl_tupA ha hl hh).weak fun σ H Q ⟨F0, H0, ρ, F, z, h⟩ => post_bind z rV_early h fun F1 H1 v x z1 g1 r1 h => post_bind z1 rV_early h fun F2 H2 l l' z2 g2 r2 h => post_bind z2 rV_early h fun F3 H3 u u' z3 g3 r3 h => by
    cases r2
    cases r3
    obtain ⟨d, e, hQ⟩ := post_of h
    clear h
    have h := hQ
    clear hQ
    have r1 := (r1.up g2).up g3
    have s := z3.sub
    unfold oSlT at e
    split at e
    · cases e
      obtain ⟨p, vs, rfl, f, q⟩ := r1.tup
      refine ⟨p, vs, rfl, (f.sq2 s), fun w => ?_, fun _ p hp => fin_new s h hp fun up => .tup (.of upd_same) ((q.cut _ _).mono up)⟩
      rw [cut_all _ _ _ (by rw [← q.len]; exact w)] at h
      exact h _ _ _ (Grow.refl s) (.tup f q)
    · cases e
/-- a slice of a row, list or tuple -/
theorem dv_sliceR (ha : DB X W a fa) (hl : DP X W lo fl) (hh : DP X W hi fh) : DV X W (.Subscript a (.Slice lo hi none p2) pos) (fun ρ => (fa ρ).bind fun x => (fl ρ).bind fun l => (fh ρ).bind fun u => R.of (match oSlL x l u with
    | some xs => some (.lst xs)
    | none => oSlT x l u)) :=
  (pe_slice (sl_list.or sl_tupA) ha hl hh).weak fun σ H Q ⟨F0, H0, ρ, F, z, h⟩ => post_bind z rV_early h fun F1 H1 v x z1 g1 r1 h => post_bind z1 rV_early h fun F2 H2 l l' z2 g2 r2 h => post_bind z2 rV_early h fun F3 H3 u u' z3 g3 r3 h => by
    cases r2
    cases r3
    obtain ⟨d, e, hQ⟩ := post_of h
    clear h
    have h := hQ
    clear hQ
    have r1 := (r1.up g2).up g3
    have s := z3.sub
    cases x <;> simp only [oSlL, oSlT] at e <;> first | (cases e; done) | skip
    · cases e
      obtain ⟨p, vs, rfl, f, q⟩ := r1.tup
      refine .inr ⟨p, vs, rfl, (f.sq2 s), fun w => ?_, fun _ p hp => fin_new s h hp fun up => .tup (.of upd_same) ((q.cut _ _).mono up)⟩
      rw [cut_all _ _ _ (by rw [← q.len]; exact w)] at h
      exact h _ _ _ (Grow.refl s) (.tup f q)
    · cases e
      obtain ⟨p, vs, rfl, f, q⟩ := r1.lst' s
      exact .inl ⟨p, vs, rfl, SqL.of f, fun p hp => fin_new s h hp fun up => .lst upd_same ((q.cut _ _).mono up)⟩
    · cases e
      obtain ⟨p, rfl, f⟩ := r1.scr
      refine .inl ⟨p, _, rfl, s.seq f, fun p hp => fin_new s h hp fun up => .lst upd_same ?_⟩
      rw [cutV_ints]
      exact RepL.ofInts _

/-! ### displays -/
variable {es : List Expr} {fs : Env → R (List D)}
theorem da_nil : DA X W [] (fun _ => .ok []) := pa_nil.weak fun σ H Q ⟨F0, H0, ρ, F, z, h⟩ => h _ _ _ (Grow.refl z.sub) .nil
theorem da_cons (ha : DV X W a fa) (hr : DA X W es fs) (hs : starEach (a :: es) X.env = (false, eval a X.env) :: starEach es X.env := by rfl) : DA X W (a :: es) (fun ρ => (fa ρ).bind fun x => (fs ρ).bind fun xs => .ok (x :: xs)) :=
  (pa_cons ha hr hs).weak fun σ H Q ⟨F0, H0, ρ, F, z, h⟩ => post_bind z rA_early h fun F1 H1 v x z1 g1 r1 h => post_bind z1 rA_early h fun F2 H2 vs xs z2 g2 r2 h =>
    h _ _ _ (Grow.refl z2.sub) (.cons (Rep.mono r1 g2.ff) r2)
def mkL (xs : List D) : Option (List D) := if xs.length ≤ 16777216 then some xs else none
theorem dv_tup {x1} (h : DA X W es fs) : DV X W (.Tuple es x1 pos) (fun ρ => (fs ρ).bind fun xs => R.of ((mkL xs).map .tup)) :=
  (pe_tup h).weak fun σ H Q ⟨F0, H0, ρ, F, z, h⟩ => post_bind z rV_early h fun F1 H1 vs xs z1 g1 r1 h => by
    obtain ⟨d, e, hQ⟩ := post_of h
    clear h
    have h := hQ
    clear hQ
    obtain ⟨ys, e1, e2⟩ := Option.map_eq_some_iff.mp e
    unfold mkL at e1
    split at e1
    · rename_i hl
      cases e1
      subst e2
      exact ⟨by rw [sizeLine_eq, RepL.len r1]; exact hl, fun p hp => fin_new z1.sub h hp fun up => .tup (.of upd_same) (RepL.mono r1 up)⟩
    · cases e1
theorem df_lst (h : DA X W es fs) : DF X W (.List es pos) (fun ρ => (fs ρ).bind fun xs => R.of (mkL xs)) :=
  (pe_lst h).weak fun σ H Q ⟨F0, H0, ρ, F, z, h⟩ => post_bind z rF_early h fun F1 H1 vs xs z1 g1 r1 h => by
    obtain ⟨d, e1, hQ⟩ := post_of h
    clear h
    have h := hQ
    clear hQ
    unfold mkL at e1
    split at e1
    · rename_i hl
      cases e1
      exact ⟨by rw [sizeLine_eq, RepL.len r1]; exact hl, fun p hp => fin_own z1.sub h hp r1⟩
    · cases e1

/-! ### attributes -/
theorem mem_of_look {f : Str} {d : D} : ∀ {fs : List (Str × D)}, fs.lookup f = some d → f ∈ fs.map (·.1)
  | [], e => by simp at e
  | (g, x) :: r, e => by
    rw [List.lookup_cons] at e
    cases hb : f == g with
    | true => rw [List.map_cons]; exact List.mem_cons.mpr (.inl (by simpa using hb))
    | false =>
      rw [hb] at e
      rw [List.map_cons]
      exact List.mem_cons_of_mem _ (mem_of_look e)
theorem dv_attr {f : Str} (ha : DB X W a fa) (hb : attributeBase a f X.env (eval a X.env) = eval a X.env := by rfl) : DV X W (.Attribute a f pos) (fun ρ => (fa ρ).bind fun x => R.of (oAttr f x)) :=
  (pe_fld ha hb).weak fun σ H Q ⟨F0, H0, ρ, F, z, h⟩ => post_bind z rV_early h fun F1 H1 v x z1 g1 r1 h => by
    obtain ⟨d, e, hF⟩ := post_of h
    unfold oAttr at e
    split at e
    · obtain ⟨p, C, dx, es, rfl, f1, c, q⟩ := r1.obj z1.sub
      obtain ⟨w, e1, rw⟩ := q.look e
      exact ⟨p, C, dx, es, w, rfl, f1, c.cls, c.no _ (mem_of_look e), e1, hF _ _ _ (Grow.refl z1.sub) rw⟩
    · cases e

/-! ### built-in functions of one argument -/
theorem dv_b1 {x : Str} {id : String} {r : List V → Hp → VK → Prop} {g : D → Option D} (hc : CallR X (.builtin id) r)
    (hq : ∀ F H v y d (Q : VK), Same F H → RepB X.K F H v y → g y = some d → (∀ w F' H', Grow F H F' H' → Rep X.K F' w d → Q w H') → r [v] H Q)
    (hg : Gl X x) (hm : X.mg x = none) (hv : bootBuiltins x = some (.builtin id)) (ha : DB X W a fa) {p : Pos} (hn : x ≠ "__name__" := by decide) (hdb : (x == ("__debug__" : Str)) = false := by decide)
    (he : starEach (a :: []) X.env = (false, eval a X.env) :: starEach [] X.env := by rfl) (hpl : (backTo pos (starEach [] X.env)).any (·.1) = false := by rfl) :
    DV X W (.Call (.Name x p) [a] [] pos) (fun ρ => (fa ρ).bind fun y => R.of (g y)) :=
  (pe_callB hc hg hm hv (pa_cons ha pa_nil he) hn hdb he hpl).weak fun σ H Q ⟨F0, H0, ρ, F, z, h⟩ => post_bind z rV_early h fun F1 H1 v y z1 g1 r1 h => by
    obtain ⟨d, e, hQ⟩ := post_of h
    clear h
    have h := hQ
    clear hQ
    exact hq F1 H1 v y d Q z1.sub r1 e h
end
end DL
/-! DL4: built-in calls, calls of one's own functions, what is walked. -/
namespace DL
open PySem PySem.Spec PyProof.Rows L2
section
variable {X : Cx} {W : Wish} {a b c e : Expr} {fa fb fc : Env → R D} {pos p : Pos} {x : Str}
theorem df_b1 {id : String} {r : List V → Hp → VK → Prop} {g : D → Option (List D)} (hc : CallR X (.builtin id) r)
    (hq : ∀ F H v y d (Q : VK), Same F H → RepB X.K F H v y → g y = some d → (∀ w F' H', Grow F H F' H' → rF X.K F H F' H' w d → Q w H') → r [v] H Q)
    (hg : Gl X x) (hm : X.mg x = none) (hv : bootBuiltins x = some (.builtin id)) (ha : DB X W a fa) (hn : x ≠ "__name__" := by decide) (hdb : (x == ("__debug__" : Str)) = false := by decide)
    (he : starEach (a :: []) X.env = (false, eval a X.env) :: starEach [] X.env := by rfl) (hpl : (backTo pos (starEach [] X.env)).any (·.1) = false := by rfl) :
    DF X W (.Call (.Name x p) [a] [] pos) (fun ρ => (fa ρ).bind fun y => R.of (g y)) :=
  (pe_callB hc hg hm hv (pa_cons ha pa_nil he) hn hdb he hpl).weak fun σ H Q ⟨F0, H0, ρ, F, z, h⟩ => post_bind z rF_early h fun F1 H1 v y z1 g1 r1 h => by
    obtain ⟨d, e, hF⟩ := post_of h
    exact hq F1 H1 v y d Q z1.sub r1 e hF
theorem dv_t1 {T : String} {r : List V → Hp → VK → Prop} {g : D → Option D} (hc : CallR X (.type T) r)
    (hq : ∀ F H v y d (Q : VK), Same F H → RepB X.K F H v y → g y = some d → (∀ w F' H', Grow F H F' H' → Rep X.K F' w d → Q w H') → r [v] H Q)
    (hg : Gl X x) (hm : X.mg x = none) (hv : bootBuiltins x = some (.type T)) (ha : DB X W a fa) (hn : x ≠ "__name__" := by decide) (hdb : (x == ("__debug__" : Str)) = false := by decide)
    (he : starEach (a :: []) X.env = (false, eval a X.env) :: starEach [] X.env := by rfl) (hpl : (backTo pos (starEach [] X.env)).any (·.1) = false := by rfl) :
    DV X W (.Call (.Name x p) [a] [] pos) (fun ρ => (fa ρ).bind fun y => R.of (g y)) :=
  (pe_callTy hc hg hm hv (pa_cons ha pa_nil he) hn hdb he hpl).weak fun σ H Q ⟨F0, H0, ρ, F, z, h⟩ => post_bind z rV_early h fun F1 H1 v y z1 g1 r1 h => by
    obtain ⟨d, e, hF⟩ := post_of h
    exact hq F1 H1 v y d Q z1.sub r1 e hF
theorem df_t1 {T : String} {r : List V → Hp → VK → Prop} {g : D → Option (List D)} (hc : CallR X (.type T) r)
    (hq : ∀ F H v y d (Q : VK), Same F H → RepB X.K F H v y → g y = some d → (∀ w F' H', Grow F H F' H' → rF X.K F H F' H' w d → Q w H') → r [v] H Q)
    (hg : Gl X x) (hm : X.mg x = none) (hv : bootBuiltins x = some (.type T)) (ha : DB X W a fa) (hn : x ≠ "__name__" := by decide) (hdb : (x == ("__debug__" : Str)) = false := by decide)
    (he : starEach (a :: []) X.env = (false, eval a X.env) :: starEach [] X.env := by rfl) (hpl : (backTo pos (starEach [] X.env)).any (·.1) = false := by rfl) :
    DF X W (.Call (.Name x p) [a] [] pos) (fun ρ => (fa ρ).bind fun y => R.of (g y)) :=
  (pe_callTy hc hg hm hv (pa_cons ha pa_nil he) hn hdb he hpl).weak fun σ H Q ⟨F0, H0, ρ, F, z, h⟩ => post_bind z rF_early h fun F1 H1 v y z1 g1 r1 h => by
    obtain ⟨d, e, hF⟩ := post_of h
    exact hq F1 H1 v y d Q z1.sub r1 e hF

/-- len -/
theorem dv_len (hg : Gl X "len") (hm : X.mg "len" = none) (ha : DB X W a fa) (he : starEach (a :: []) X.env = (false, eval a X.env) :: starEach [] X.env := by rfl) (hpl : (backTo pos (starEach [] X.env)).any (·.1) = false := by rfl) :
    DV X W (.Call (.Name "len" p) [a] [] pos) (fun ρ => (fa ρ).bind fun y => R.of (oLen y)) := by
  refine dv_b1 call_len (fun F H v y d Q s r e h => ?_) hg hm boot_len ha (by decide) (by decide) he hpl
  unfold oLen at e
  split at e
  · cases e
    obtain ⟨p, vs, rfl, f, q⟩ := r.lst' s
    exact ⟨_, vs.length, rfl, .inl ⟨vs, SqL.of f, rfl⟩, by rw [q.len]; exact h _ _ _ (Grow.refl s) (.int _)⟩
  · cases e
    obtain ⟨p, vs, rfl, f, q⟩ := r.tup
    exact ⟨_, vs.length, rfl, .inr ⟨vs, (f.sq2 s), rfl⟩, by rw [q.len]; exact h _ _ _ (Grow.refl s) (.int _)⟩
  · rename_i ns
    cases e
    obtain ⟨p, rfl, f⟩ := r.scr
    exact ⟨_, _, rfl, .inl ⟨_, s.seq f, rfl⟩, by rw [List.length_map]; exact h _ _ _ (Grow.refl s) (.int _)⟩
  · split at e
    · rename_i hl
      cases e
      have ev := r.str
      subst ev
      exact ⟨_, _, rfl, ⟨by rw [sizeLine_eq]; exact hl, rfl⟩, h _ _ _ (Grow.refl s) (.int _)⟩
    · cases e
  · cases e
theorem RepK.len {K : KF} {F : Hp} : ∀ {es : List (List Key × V)} {kvs : List (List Key × D)}, RepK K F es kvs → es.length = kvs.length
  | _, _, .nil => rfl
  | _, _, .cons _ t => by rw [List.length_cons, List.length_cons, RepK.len t]
theorem dv_lenD (hg : Gl X "len") (hm : X.mg "len" = none) (ha : DB X W a fa) (he : starEach (a :: []) X.env = (false, eval a X.env) :: starEach [] X.env := by rfl) (hpl : (backTo pos (starEach [] X.env)).any (·.1) = false := by rfl) :
    DV X W (.Call (.Name "len" p) [a] [] pos) (fun ρ => (fa ρ).bind fun y => R.of (oLenD y)) := by
  refine dv_b1 call_len_dT (fun F H v y d Q s r e h => ?_) hg hm boot_len ha (by decide) (by decide) he hpl
  unfold oLenD at e
  split at e
  · cases e
    obtain ⟨p, vs, rfl, f, q⟩ := r.dct' s
    exact ⟨p, vs, rfl, f, by rw [q.len]; exact h _ _ _ (Grow.refl s) (.int _)⟩
  · cases e
theorem dv_int1 (hg : Gl X "int") (hm : X.mg "int" = none) (ha : DB X W a fa) (he : starEach (a :: []) X.env = (false, eval a X.env) :: starEach [] X.env := by rfl) (hpl : (backTo pos (starEach [] X.env)).any (·.1) = false := by rfl) :
    DV X W (.Call (.Name "int" p) [a] [] pos) (fun ρ => (fa ρ).bind fun y => R.of (oInt y)) := by
  refine dv_t1 call_int1 (fun F H v y d Q s r e h => ?_) hg hm (by decide +kernel) ha (by decide) (by decide) he hpl
  unfold oInt at e
  split at e
  · cases e
    have ev := r.int
    subst ev
    exact .inl ⟨_, rfl, h _ _ _ (Grow.refl s) (.int _)⟩
  · cases e
    have ev := r.bl
    subst ev
    exact .inr ⟨_, rfl, h _ _ _ (Grow.refl s) (.int _)⟩
  · cases e
theorem dv_tuple (hg : Gl X "tuple") (hm : X.mg "tuple" = none) (ha : DB X W a fa) (he : starEach (a :: []) X.env = (false, eval a X.env) :: starEach [] X.env := by rfl) (hpl : (backTo pos (starEach [] X.env)).any (·.1) = false := by rfl) :
    DV X W (.Call (.Name "tuple" p) [a] [] pos) (fun ρ => (fa ρ).bind fun y => R.of (oTuple y)) := by
  refine dv_t1 call_tuple_of (fun F H v y d Q s r e h => ?_) hg hm (by decide +kernel) ha (by decide) (by decide) he hpl
  unfold oTuple at e
  split at e
  · cases e
    obtain ⟨p, vs, rfl, f, q⟩ := r.lst' s
    exact ⟨p, vs, rfl, .inl ⟨SqL.of f, fun l hl => fin_new s h hl fun up => .tup (.of upd_same) (q.mono up)⟩⟩
  · cases e
    obtain ⟨p, vs, rfl, f, q⟩ := r.tup
    exact ⟨p, vs, rfl, .inr ⟨(f.sq2 s), h _ _ _ (Grow.refl s) (.tup f q)⟩⟩
  · cases e
theorem df_list (hg : Gl X "list") (hm : X.mg "list" = none) (ha : DB X W a fa) (he : starEach (a :: []) X.env = (false, eval a X.env) :: starEach [] X.env := by rfl) (hpl : (backTo pos (starEach [] X.env)).any (·.1) = false := by rfl) :
    DF X W (.Call (.Name "list" p) [a] [] pos) (fun ρ => (fa ρ).bind fun y => R.of (oList y)) := by
  refine df_t1 call_list_of (fun F H v y d Q s r e h => ?_) hg hm (by decide +kernel) ha (by decide) (by decide) he hpl
  unfold oList at e
  split at e
  · cases e
    obtain ⟨p, vs, rfl, f, q⟩ := r.lst' s
    exact ⟨p, vs, rfl, .inl (SqL.of f), fun l hl => fin_own s h hl q⟩
  · cases e
    obtain ⟨p, vs, rfl, f, q⟩ := r.tup
    exact ⟨p, vs, rfl, .inr ((f.sq2 s)), fun l hl => fin_own s h hl q⟩
  · cases e
theorem rgV_rep {K : KF} {F : Hp} (n : Int) : RepL K F (rgV 0 n) ((List.range n.toNat).map fun i => D.int (i : Nat)) := by
  have e1 : rgV 0 n = ((List.range n.toNat).map fun i => ((i : Nat) : Int)).map V.int := by
    unfold rgV
    rw [Int.sub_zero, List.map_map]
    refine List.map_congr_left fun i _ => ?_
    show V.int (0 + (i : Int)) = V.int (i : Int)
    rw [Int.zero_add]
  have e2 : ((List.range n.toNat).map fun i => D.int (i : Nat)) = ((List.range n.toNat).map fun i => ((i : Nat) : Int)).map D.int := by rw [List.map_map]; rfl
  rw [e1, e2]
  exact RepL.ofInts _
/-- list(range(n)) -/
theorem df_listRg {p2 pos2 : Pos} (hc : X.calm = true) (hg : Gl X "list") (hm : X.mg "list" = none) (hg2 : Gl X "range") (hm2 : X.mg "range" = none) (ha : DB X W a fa)
    (na : starEach [a] X.env = (false, eval a X.env) :: starEach [] X.env := by rfl) (ne : starEach [.Call (.Name "range" p2) [a] [] pos2] X.env = (false, eval (.Call (.Name "range" p2) [a] [] pos2) X.env) :: starEach [] X.env := by rfl) :
    DF X W (.Call (.Name "list" p) [.Call (.Name "range" p2) [a] [] pos2] [] pos) (fun ρ => (fa ρ).bind fun y => R.of (oRange y)) :=
  (pe_listRg hc hg hm (prg_1 hg2 hm2 ha na) ne).weak fun σ H Q ⟨F0, H0, ρ, F, z, h⟩ => post_bind z rF_early h fun F1 H1 v y z1 g1 r1 h => by
    obtain ⟨d, e, hF⟩ := post_of h
    unfold oRange at e
    split at e
    · split at e
      · rename_i n hn
        cases e
        have ev := r1.int
        subst ev
        refine ⟨n, rfl, ⟨by omega, by omega, by omega, by omega, by omega⟩, fun q hq => fin_own z1.sub hF hq (rgV_rep n)⟩
      · cases e
    · cases e
theorem insI_perm (x : Int) : ∀ l, (insI x l).Perm (x :: l)
  | [] => List.Perm.refl _
  | y :: r => by
    unfold insI
    split
    · exact List.Perm.refl _
    · exact ((insI_perm x r).cons y).trans (List.Perm.swap x y r)
theorem sortI_perm : ∀ l, (sortI l).Perm l
  | [] => List.Perm.refl _
  | x :: r => (insI_perm x (sortI r)).trans ((sortI_perm r).cons x)
theorem insI_sorted (x : Int) : ∀ l : List Int, l.Pairwise (· ≤ ·) → (insI x l).Pairwise (· ≤ ·)
  | [], _ => by simp [insI]
  | y :: r, h => by
    unfold insI
    split
    · rename_i hx
      refine List.pairwise_cons.mpr ⟨fun z hz => ?_, h⟩
      rcases List.mem_cons.mp hz with rfl | hz
      · exact hx
      · exact Int.le_trans hx ((List.pairwise_cons.mp h).1 z hz)
    · rename_i hx
      obtain ⟨h1, h2⟩ := List.pairwise_cons.mp h
      refine List.pairwise_cons.mpr ⟨fun z hz => ?_, insI_sorted x r h2⟩
      rcases List.mem_cons.mp ((insI_perm x r).mem_iff.mp hz) with rfl | hz
      · omega
      · exact h1 z hz
theorem sortI_sorted : ∀ l : List Int, (sortI l).Pairwise (· ≤ ·)
  | [] => .nil
  | x :: r => insI_sorted x _ (sortI_sorted r)
theorem sorted_uniq : ∀ {l m : List Int}, l.Perm m → l.Pairwise (· ≤ ·) → m.Pairwise (· ≤ ·) → l = m
  | [], m, h, _, _ => by rw [List.nil_perm.mp h]
  | a :: r, [], h, _, _ => by have := h.length_eq; simp at this
  | a :: r, b :: t, h, h1, h2 => by
    obtain ⟨p1, p2⟩ := List.pairwise_cons.mp h1
    obtain ⟨q1, q2⟩ := List.pairwise_cons.mp h2
    have e : a = b := by
      have m1 : a ∈ b :: t := h.mem_iff.mp List.mem_cons_self
      have m2 : b ∈ a :: r := h.mem_iff.mpr List.mem_cons_self
      rcases List.mem_cons.mp m1 with e | m1
      · exact e
      · rcases List.mem_cons.mp m2 with e | m2
        · exact e.symm
        · have := q1 a m1; have := p1 b m2; omega
    subst e
    rw [sorted_uniq (List.Perm.cons_inv h) p2 q2]
theorem df_sorted (hg : Gl X "sorted") (hm : X.mg "sorted" = none) (ha : DB X W a fa) (he : starEach (a :: []) X.env = (false, eval a X.env) :: starEach [] X.env := by rfl) (hpl : (backTo pos (starEach [] X.env)).any (·.1) = false := by rfl) :
    DF X W (.Call (.Name "sorted" p) [a] [] pos) (fun ρ => (fa ρ).bind fun y => R.of (oSorted y)) := by
  refine df_b1 cr_sorted (fun F H v y d Q s r e h => ?_) hg hm (by decide +kernel) ha (by decide) (by decide) he hpl
  unfold oSorted at e
  split at e
  · obtain ⟨ns, e1, e2⟩ := Option.bind_eq_some_iff.mp e
    split at e2
    · rename_i h64
      cases e2
      obtain ⟨p, vs, rfl, f, q⟩ := r.lst' s
      have ev := q.ints e1
      subst ev
      refine ⟨p, ns, rfl, SqL.of f, h64, fun ns' l hp hs hl => ?_⟩
      have e3 : ns' = sortI ns := sorted_uniq (hp.trans (sortI_perm ns).symm) hs (sortI_sorted ns)
      subst e3
      exact fin_own s h hl (RepL.ofInts _)
    · cases e2
  · cases e
theorem dv_all (hc : X.calm = true) (hg : Gl X "all") (hm : X.mg "all" = none) (ha : DB X W a fa) (he : starEach (a :: []) X.env = (false, eval a X.env) :: starEach [] X.env := by rfl) (hpl : (backTo pos (starEach [] X.env)).any (·.1) = false := by rfl) :
    DV X W (.Call (.Name "all" p) [a] [] pos) (fun ρ => (fa ρ).bind fun y => R.of (oAll y)) := by
  refine dv_b1 (cr_all hc) (fun F H v y d Q s r e h => ?_) hg hm (by decide +kernel) ha (by decide) (by decide) he hpl
  unfold oAll at e
  split at e
  · obtain ⟨ns, e1, e2⟩ := Option.map_eq_some_iff.mp e
    subst e2
    obtain ⟨p, vs, rfl, f, q⟩ := r.lst' s
    have ev := q.bls e1
    subst ev
    exact ⟨p, ns, rfl, SqL.of f, h _ _ _ (Grow.refl s) (.bl _)⟩
  · cases e

/-! ### isinstance -/
theorem tyX_of {K : KF} {F H : Hp} {v : V} {d : D} {n : String} (s : Same F H) (r : RepB K F H v d) (e : tyN d = some n) : TyX K H v (.type n) := by
  cases d <;> simp only [tyN] at e <;> first | (cases e; done) | (cases e)
  · have ev := r.non; subst ev; exact .base .non
  · have ev := r.bl; subst ev; exact .base (.bl _)
  · have ev := r.int; subst ev; exact .base (.int _)
  · have ev := r.str; subst ev; exact .base (.str _)
  · obtain ⟨p, vs, rfl, f, q⟩ := r.tup
    rcases f with f | ⟨_, o, its, n, h1, h2, _⟩
    · exact .base (.tup (s _ _ f))
    · exact .kTuple h1 h2
  · obtain ⟨p, vs, rfl, f, q⟩ := r.lst' s; exact .base (.lst f)
  · obtain ⟨p, vs, rfl, f, q⟩ := r.dct' s; exact .base (.dT f)
/-- isinstance(x, T), T a built-in type -/
theorem dv_isi {n : String} {p1 p2 : Pos} {xT : Str} (hg : Gl X "isinstance") (hm : X.mg "isinstance" = none) (ha : DB X W a fa) (hT : PE X (.Name xT p2) (tC (.ty n)))
    (he : starEach (a :: [.Name xT p2]) X.env = (false, eval a X.env) :: starEach [.Name xT p2] X.env := by rfl) (he2 : starEach [.Name xT p2] X.env = (false, eval (.Name xT p2) X.env) :: starEach [] X.env := by rfl)
    (hpl : (backTo pos (starEach [.Name xT p2] X.env)).any (·.1) = false := by rfl) :
    DV X W (.Call (.Name "isinstance" p1) [a, .Name xT p2] [] pos) (fun ρ => (fa ρ).bind fun y => R.of ((isB1 n y).map .bl)) :=
  (pe_callB call_isi hg hm (by decide +kernel) (pa_cons ha (pa_cons hT pa_nil he2) he) (by decide) (by decide) he hpl).weak fun σ H Q ⟨F0, H0, ρ, F, z, h⟩ => post_bind z rV_early h fun F1 H1 v y z1 g1 r1 h => by
    obtain ⟨d, e, hF⟩ := post_of h
    obtain ⟨k, e1, e2⟩ := Option.map_eq_some_iff.mp e
    subst e2
    unfold isB1 at e1
    obtain ⟨t, e3, e4⟩ := Option.bind_eq_some_iff.mp e1
    exact ⟨v, .ty n, .type t, .type n, k, rfl, .ty n, tyX_of z1.sub r1 e3, kit_ty e4, hF _ _ _ (Grow.refl z1.sub) (.bl _)⟩
theorem isBs_kit {K : KF} {d : D} {t : String} (ht : tyN d = some t) : ∀ {ns : List String} {k : Bool}, isBs ns d = some k → PySem.W.kitAny K (.type t) (ns.map Value.type) = some k
  | [], k, e => by cases e; exact kitAny_nil
  | n :: r, k, e => by
    unfold isBs at e
    obtain ⟨b, e1, e2⟩ := Option.bind_eq_some_iff.mp e
    unfold isB1 at e1
    rw [ht] at e1
    refine kitAny_cons (b := b) (kit_ty e1) (fun hb => ?_) fun hb => ?_
    · subst hb
      exact isBs_kit ht (by simpa using e2)
    · subst hb
      simpa using e2.symm
theorem clsV_all (ns : List String) : Paired ClsV (ns.map V.ty) (ns.map Value.type) := by
  induction ns with
  | nil => exact .nil
  | cons n r ih => exact .cons (.ty n) ih
/-- isinstance(x, (T1, T2)) -/
theorem dv_isi2 {n m : String} {k : Nat} {p1 p2 p3 p4 : Pos} {xT xU : Str} (hg : Gl X "isinstance") (hm : X.mg "isinstance" = none) (ha : DB X W a fa) (hT : PE X (.Name xT p2) (tC (.ty n))) (hU : PE X (.Name xU p3) (tC (.ty m)))
    (he : starEach (a :: [.Tuple [.Name xT p2, .Name xU p3] k p4]) X.env = (false, eval a X.env) :: starEach [.Tuple [.Name xT p2, .Name xU p3] k p4] X.env := by rfl)
    (he2 : starEach [.Tuple [.Name xT p2, .Name xU p3] k p4] X.env = (false, eval (.Tuple [.Name xT p2, .Name xU p3] k p4) X.env) :: starEach [] X.env := by rfl)
    (he3 : starEach [.Name xT p2, .Name xU p3] X.env = (false, eval (.Name xT p2) X.env) :: starEach [.Name xU p3] X.env := by rfl) (he4 : starEach [.Name xU p3] X.env = (false, eval (.Name xU p3) X.env) :: starEach [] X.env := by rfl)
    (hpl : (backTo pos (starEach [.Tuple [.Name xT p2, .Name xU p3] k p4] X.env)).any (·.1) = false := by rfl) :
    DV X W (.Call (.Name "isinstance" p1) [a, .Tuple [.Name xT p2, .Name xU p3] k p4] [] pos) (fun ρ => (fa ρ).bind fun y => R.of ((isBs [n, m] y).map .bl)) :=
  (pe_callB call_isiT hg hm (by decide +kernel) (pa_cons ha (pa_cons (pe_tup (pa_cons hT (pa_cons hU pa_nil he4) he3)) pa_nil he2) he) (by decide) (by decide) he hpl).weak fun σ H Q ⟨F0, H0, ρ, F, z, h⟩ => post_bind z rV_early h fun F1 H1 v y z1 g1 r1 h => by
    obtain ⟨d, e, hF⟩ := post_of h
    obtain ⟨k, e1, e2⟩ := Option.map_eq_some_iff.mp e
    subst e2
    refine ⟨by rw [sizeLine_eq]; show 2 ≤ 16777216; decide, fun q hq => ?_⟩
    have g2 : Grow F1 H1 F1 (upd H1 q (.tup [.ty n, .ty m])) := Grow.own z1.sub hq
    cases ht : tyN y with
    | none =>
      unfold isBs isB1 at e1
      rw [ht] at e1
      cases e1
    | some t =>
      exact ⟨v, q, _, .type t, [n, m].map Value.type, k, rfl, upd_same, clsV_all [n, m], tyX_of g2.fh (r1.up g2) ht, isBs_kit ht e1, hF _ _ _ g2 (.bl _)⟩

/-! ### calls of one's own functions -/
inductive Ret where
  | val (d : D)
  | frl (xs : List D)
def Ret.v : Ret → D
  | .val d => d
  | .frl xs => .lst xs
def Ret.f : Ret → Option (List D)
  | .frl xs => some xs
  | .val _ => none
def RetPost (K : KF) (mg : Str → Option Value) (F H : Hp) (Q : VK) (E : XK) : R Ret → Prop
  | .stuck => False
  | .err c => ∀ F' H' C, Grow F H F' H' → mg c = some (.ref C) → E (.ref C) none H'
  | .ok (.val d) => ∀ v F' H', Grow F H F' H' → Rep K F' v d → Q v H'
  | .ok (.frl xs) => ∀ v F' H', Grow F H F' H' → rF K F H F' H' v xs → Q v H'
/-- the promise of a def: data in, data out -/
def spD (K : KF) (mg : Str → Option Value) (n : Nat) (m : List D → R Ret) : Sp := fun vs H Q E => vs.length = n ∧ ∃ F ds, Same F H ∧ RepL K F vs ds ∧ RetPost K mg F H Q E (m ds)
/-- the wish of exceptions, told by classes' names -/
abbrev wish (mg : Str → Option Value) (W' : WX) : Wish := fun c σ H => ∀ C, mg c = some (.ref C) → W' (.ref C) none σ H
def AL (f : Env → R (List D)) (n : Nat) : Prop := ∀ ρ ds, f ρ = .ok ds → ds.length = n
theorem al_nil : AL (fun _ => .ok []) 0 := fun _ _ h => by cases h; rfl
theorem al_cons {fa : Env → R D} {fs : Env → R (List D)} {n : Nat} (h : AL fs n) : AL (fun ρ => (fa ρ).bind fun x => (fs ρ).bind fun xs => .ok (x :: xs)) (n + 1) := fun ρ ds e => by
  have e : (fa ρ).bind (fun x => (fs ρ).bind fun xs => .ok (x :: xs)) = .ok ds := e
  cases q : fa ρ with
  | stuck => rw [q] at e; cases e
  | err c => rw [q] at e; cases e
  | ok x =>
    rw [q] at e
    cases q2 : fs ρ with
    | stuck => rw [q2] at e; cases e
    | err c => rw [q2] at e; cases e
    | ok xs =>
      rw [q2] at e
      cases e
      rw [List.length_cons, h ρ xs q2]
variable {W' : WX} {es : List Expr} {fs : Env → R (List D)} {m : List D → R Ret} {k n : Nat} {f : Addr} {fd : FuncData} {ps : List Str}
theorem dv_call (F : FnOk X.prog X.w X.K X.mg X.base (L2.CX X.prog X.w) k f fd ps (spD X.K X.mg n m)) (hr : Room k X.A) (tk : Takes X W') (hg : Gl X x) (hm : X.mg x = some (.ref f)) (hk : PySem.W.keepIn X.K (.ref f) = true) (hb : Binds X.K fd ps [])
    (ha : DA X (wish X.mg W') (e :: es) fs) (hfs : AL fs n) (hdb : (x == ("__debug__" : Str)) = false := by decide) (he : starEach (e :: es) X.env = (false, eval e X.env) :: starEach es X.env := by rfl) (hpl : (backTo pos (starEach es X.env)).any (·.1) = false := by rfl) :
    DV X (wish X.mg W') (.Call (.Name x p) (e :: es) [] pos) (fun ρ => (fs ρ).bind fun ds => (m ds).map Ret.v) :=
  (pe_callS F hr hg hm hk hb (fun σ => passAt tk σ) ha hdb he hpl).weak fun σ H Q ⟨F0, H0, ρ, F, z, h⟩ => by
    refine ⟨F0, H0, ρ, F, z, ?_⟩
    have h : Post (wish X.mg W') (rV X.K) F H σ ((fs ρ).bind fun ds => (m ds).map Ret.v) Q := h
    cases q : fs ρ with
    | stuck => rw [q] at h; exact h
    | err c => rw [q] at h; exact h
    | ok ds =>
      rw [q] at h
      intro vs F1 H1 g1 r1
      have h2 : Post (wish X.mg W') (rV X.K) F1 H1 σ ((m ds).map Ret.v) Q := Post.later rV_early g1 h
      refine ⟨by rw [RepL.len r1]; exact hfs ρ ds q, F1, ds, g1.fh, r1, ?_⟩
      cases q2 : m ds with
      | stuck => rw [q2] at h2; exact h2
      | err c => rw [q2] at h2; exact fun F' H' C g hC => h2 F' H' g C hC
      | ok r =>
        rw [q2] at h2
        cases r with
        | val d => exact fun v F' H' g rv => h2 v F' H' g rv
        | frl xs =>
          intro v F' H' g ⟨a, vs, e1, h0, hf, hh, rl⟩
          subst e1
          have up : Same F' (upd F' a (.lst vs)) := Same.add hf
          refine h2 (.ref a) (upd F' a (.lst vs)) H' ⟨g.hh, g.ff.trans up, fun b o e => ?_, fun b hb e => ?_⟩ (.lst upd_same (rl.mono up))
          · by_cases hb : b = a
            · subst hb; rw [upd_same] at e; cases e; exact hh
            · rw [upd_ne hb] at e; exact g.fh b o e
          · rw [upd_ne (fun q => hb (by rw [q]; exact h0))]; exact g.nn b hb e
theorem df_call (F : FnOk X.prog X.w X.K X.mg X.base (L2.CX X.prog X.w) k f fd ps (spD X.K X.mg n m)) (hr : Room k X.A) (tk : Takes X W') (hg : Gl X x) (hm : X.mg x = some (.ref f)) (hk : PySem.W.keepIn X.K (.ref f) = true) (hb : Binds X.K fd ps [])
    (ha : DA X (wish X.mg W') (e :: es) fs) (hfs : AL fs n) (hdb : (x == ("__debug__" : Str)) = false := by decide) (he : starEach (e :: es) X.env = (false, eval e X.env) :: starEach es X.env := by rfl) (hpl : (backTo pos (starEach es X.env)).any (·.1) = false := by rfl) :
    DF X (wish X.mg W') (.Call (.Name x p) (e :: es) [] pos) (fun ρ => (fs ρ).bind fun ds => (m ds).bind fun r => R.of r.f) :=
  (pe_callS F hr hg hm hk hb (fun σ => passAt tk σ) ha hdb he hpl).weak fun σ H Q ⟨F0, H0, ρ, F, z, h⟩ => by
    refine ⟨F0, H0, ρ, F, z, ?_⟩
    have h : Post (wish X.mg W') (rF X.K) F H σ ((fs ρ).bind fun ds => (m ds).bind fun r => R.of r.f) Q := h
    cases q : fs ρ with
    | stuck => rw [q] at h; exact h
    | err c => rw [q] at h; exact h
    | ok ds =>
      rw [q] at h
      intro vs F1 H1 g1 r1
      have h2 : Post (wish X.mg W') (rF X.K) F1 H1 σ ((m ds).bind fun r => R.of r.f) Q := Post.later rF_early g1 h
      refine ⟨by rw [RepL.len r1]; exact hfs ρ ds q, F1, ds, g1.fh, r1, ?_⟩
      cases q2 : m ds with
      | stuck => rw [q2] at h2; exact h2
      | err c => rw [q2] at h2; exact fun F' H' C g hC => h2 F' H' g C hC
      | ok r =>
        rw [q2] at h2
        cases r with
        | val d => exact h2.elim
        | frl xs => exact fun v F' H' g rv => h2 v F' H' g rv
end
end DL
/-! DL5: what is walked; targets; statements; loops. -/
namespace DL
open PySem PySem.Spec PyProof.Rows L2

/-- a walk over items that are data -/
def ItOk (K : KF) (J : It) (F1 : Hp) (items : List D) : Prop := ∃ (G : Hp → Prop) (Y : Nat → Hp → V → Hp → Prop), Walk J items.length G Y ∧ (∀ F H, Same F1 F → Same F H → G H) ∧
  ∀ i F H x H', Same F1 F → Same F H → i < items.length → Y i H x H' → ∃ d F', items[i]? = some d ∧ Grow F H F' H' ∧ Rep K F' x d
def rI (K : KF) : Rel It (List D) := fun _ _ F' _ J items => ItOk K J F' items
theorem rI_early {K : KF} : (rI K).Early := fun _ _ _ _ _ _ _ _ _ h => h
abbrev DI (X : Cx) (W : Wish) (tg e : Expr) (f : Env → R (List D)) : Prop := PI X tg e (tG X.K W (rI X.K) f)

def chars (z : Str) : List D := z.cps.toList.map fun c => .str ⟨#[c]⟩
def oItems : D → Option (List D)
  | .lst xs => some xs
  | .tup xs => some xs
  | .scr ns => some (ns.map .int)
  | .str z => some (chars z)
  | _ => none
theorem sqT_up {K : KF} {F H : Hp} {a : Addr} {vs : List V} (s : Same F H) (h : TupAt K F a vs) : SqT K H a vs := h.sq2 s
theorem itok_list {K : KF} {F : Hp} {a : Addr} {vs : List V} {xs : List D} (hF : SqL K F a vs) (q : RepL K F vs xs) : ItOk K (Itl K a) F xs :=
  ⟨_, _, by rw [← q.len]; exact walk_list (xs := vs), fun F' H s1 s2 => s2.seq (s1.seq hF), fun i F' H x H' s1 s2 hi y => by
    obtain ⟨rfl, e⟩ := y
    obtain ⟨d, e1, r⟩ := q.getV e
    exact ⟨d, F', e1, Grow.refl s2, r.mono s1⟩⟩
theorem itok_tup {K : KF} {F : Hp} {a : Addr} {vs : List V} {xs : List D} (hF : TupAt K F a vs) (q : RepL K F vs xs) : ItOk K (Itt K a) F xs :=
  ⟨_, _, by rw [← q.len]; exact walk_tup (xs := vs), fun F' H s1 s2 => hF.sq2 (s1.trans s2), fun i F' H x H' s1 s2 hi y => by
    obtain ⟨rfl, e⟩ := y
    obtain ⟨d, e1, r⟩ := q.getV e
    exact ⟨d, F', e1, Grow.refl s2, r.mono s1⟩⟩
theorem itok_str {K : KF} {F : Hp} {z : Str} : ItOk K (Its z) F (chars z) :=
  ⟨_, _, by have e : (chars z).length = z.cps.size := by simp [chars]
            rw [e]; exact walk_str, fun F' H s1 s2 => True.intro, fun i F' H x H' s1 s2 hi y => by
    obtain ⟨rfl, c, e, ex⟩ := y
    subst ex
    refine ⟨.str ⟨#[c]⟩, F', ?_, Grow.refl s2, .str _⟩
    unfold chars
    rw [List.getElem?_map, Array.getElem?_toList, e]; rfl⟩
theorem itok_range {K : KF} {F : Hp} {lo : Int} {n : Nat} : ItOk K (Itr lo n) F ((List.range n).map fun i => .int (lo + (i : Nat))) :=
  ⟨_, _, by have e : ((List.range n).map fun i => D.int (lo + (i : Nat))).length = n := by simp
            rw [e]; exact walk_range, fun F' H s1 s2 => True.intro, fun i F' H x H' s1 s2 hi y => by
    obtain ⟨rfl, ex⟩ := y
    subst ex
    refine ⟨.int (lo + i), F', ?_, Grow.refl s2, .int _⟩
    have hn : i < n := by simpa using hi
    simp [hn]⟩
def oRg1 : D → Option (List D)
  | .int n => if -(2 ^ 62) ≤ n ∧ n < 2 ^ 62 then some ((List.range n.toNat).map fun i => .int (0 + (i : Nat))) else none
  | _ => none
def oRg2 : D → D → Option (List D)
  | .int a, .int b => if -(2 ^ 62) ≤ a ∧ a < 2 ^ 62 ∧ -(2 ^ 62) ≤ b ∧ b < 2 ^ 62 then some ((List.range (b - a).toNat).map fun i => .int (a + (i : Nat))) else none
  | _, _ => none
section
variable {X : Cx} {W : Wish} {a b c e tg : Expr} {fa fb fc : Env → R D} {pos p : Pos} {x : Str}
/-- for .. in a list, a tuple, a text (whatever of these it is) -/
theorem di_seq (ha : DV X W a fa) : DI X W tg a (fun ρ => (fa ρ).bind fun y => R.of (oItems y)) := by
  refine ⟨fun pins s σ H Rr I h => ?_⟩
  obtain ⟨F0, H0, ρ, F, z, h⟩ := h
  have h : Post W (rI X.K) F H σ ((fa ρ).bind fun y => R.of (oItems y)) Rr := h
  cases q : fa ρ with
  | stuck => rw [q] at h; exact h.elim
  | err c =>
    refine (pi_list ha).run pins s σ H Rr I ⟨F0, H0, ρ, F, z, ?_⟩
    rw [q] at h ⊢
    exact h
  | ok y =>
    rw [q] at h
    obtain ⟨items, e, hF⟩ := post_of (show Post W (rI X.K) F H σ (R.of (oItems y)) Rr from h)
    unfold oItems at e
    split at e
    · cases e
      refine (pi_list ha).run pins s σ H Rr I ⟨F0, H0, ρ, F, z, ?_⟩
      rw [q]
      intro v F' H' g r
      cases r with
      | lst f r => exact ⟨_, rfl, ⟨_, SqL.of (g.fh _ _ f)⟩, hF _ _ _ g (itok_list (SqL.of f) r)⟩
    · cases e
      refine (pi_tup ha).run pins s σ H Rr I ⟨F0, H0, ρ, F, z, ?_⟩
      rw [q]
      intro v F' H' g r
      cases r with
      | tup f r => exact ⟨_, rfl, ⟨_, f.sq2 g.fh⟩, hF _ _ _ g (itok_tup f r)⟩
    · cases e
      refine (pi_list ha).run pins s σ H Rr I ⟨F0, H0, ρ, F, z, ?_⟩
      rw [q]
      intro v F' H' g r
      cases r with
      | scr f => exact ⟨_, rfl, ⟨_, g.fh.seq f⟩, hF _ _ _ g (itok_list f (RepL.ofInts _))⟩
    · cases e
      refine (pi_str ha).run pins s σ H Rr I ⟨F0, H0, ρ, F, z, ?_⟩
      rw [q]
      intro v F' H' g r
      cases r with
      | str x => exact ⟨_, rfl, hF _ _ _ g itok_str⟩
    · cases e
theorem di_range1 (hg : Gl X "range") (hm : X.mg "range" = none) (ha : DB X W a fa) (h1 : starEach (a :: []) X.env = (false, eval a X.env) :: starEach [] X.env := by rfl) (hs : starEach [a] X.env = [(false, eval a X.env)] := by rfl) :
    DI X W tg (.Call (.Name "range" p) [a] [] pos) (fun ρ => (fa ρ).bind fun y => R.of (oRg1 y)) :=
  (pi_range1 hg hm (pa_cons ha pa_nil h1) hs).weak fun σ H Q ⟨F0, H0, ρ, F, z, h⟩ => post_bind z rI_early h fun F1 H1 v y z1 g1 r1 h => by
    obtain ⟨d, e, hF⟩ := post_of h
    unfold oRg1 at e
    split at e
    · split at e
      · rename_i n hn
        cases e
        have ev := r1.int
        subst ev
        exact ⟨n, rfl, hn.1, hn.2, hF _ _ _ (Grow.refl z1.sub) itok_range⟩
      · cases e
    · cases e
theorem di_range2 (hg : Gl X "range") (hm : X.mg "range" = none) (ha : DB X W a fa) (hb : DB X W b fb) (h1 : starEach (a :: [b]) X.env = (false, eval a X.env) :: starEach [b] X.env := by rfl) (h2 : starEach (b :: []) X.env = (false, eval b X.env) :: starEach [] X.env := by rfl)
    (hs : starEach [a, b] X.env = [(false, eval a X.env), (false, eval b X.env)] := by rfl) (hs2 : starEach [b] X.env = [(false, eval b X.env)] := by rfl) :
    DI X W tg (.Call (.Name "range" p) [a, b] [] pos) (fun ρ => (fa ρ).bind fun x => (fb ρ).bind fun y => R.of (oRg2 x y)) :=
  (pi_range2 hg hm (pa_cons ha (pa_cons hb pa_nil h2) h1) hs hs2).weak fun σ H Q ⟨F0, H0, ρ, F, z, h⟩ => post_bind z rI_early h fun F1 H1 v y z1 g1 r1 h => post_bind z1 rI_early h fun F2 H2 u w z2 g2 r2 h => by
    obtain ⟨d, e, hF⟩ := post_of h
    unfold oRg2 at e
    split at e
    · split at e
      · rename_i hn
        cases e
        have ev := (r1.up g2).int
        subst ev
        have ev2 := r2.int
        subst ev2
        exact ⟨_, _, rfl, hn, hF _ _ _ (Grow.refl z2.sub) itok_range⟩
      · cases e
    · cases e

/-! unpacking a list or a tuple -/
section
variable {prog : Program} {w : World} {A : Around} {E : Value → Shared → Prop} {s : Shared}
theorem draw_list {it t : Addr} {items : Array Value} (hne : t ≠ it) : ∀ (n i : Nat) (s : Shared) (Q : List Value → Shared → Prop), s.heap.IsListIter it t i → s.heap.IsList t items → i + n ≤ items.size →
    (∀ h', h'.IsListIter it t (i + n) → Heap.SameBut it s.heap h' → Q ((items.toList.drop i).take n) { s with heap := h' }) → wpAny (model prog w) A (draw (.ref it) n) Q E s
  | 0, i, s, Q, hit, _, _, hQ => by
    show wpAny _ _ (pure []) Q E s
    exact wpAny_pure (by simpa using hQ s.heap hit (Heap.SameBut.refl ..))
  | n + 1, i, s, Q, hit, ht, hle, hQ => by
    have hlt : i < items.size := by omega
    show wpAny _ _ (pyNext (.ref it) >>= _) Q E s
    refine wpAny_bind (wpAny_pyNext_list_item hit ht (x := items[i]) (by simp [hlt]) fun h₁ hit₁ hs₁ => ?_)
    refine wpAny_bind (wpAny_holding (draw_list hne n (i + 1) _ _ hit₁ (ht.extBut hs₁.extBut hne) (by omega) fun h₂ hit₂ hs₂ => wpAny_pure ?_))
    have hd : items.toList.drop i = items[i] :: items.toList.drop (i + 1) := by simp [List.drop_eq_getElem_cons, hlt]
    have := hQ h₂ (by rw [show i + (n + 1) = i + 1 + n by omega]; exact hit₂) (hs₁.trans hs₂)
    rw [hd, List.take_succ_cons] at this
    exact this
theorem unpackItems_list {t : Addr} {items : Array Value} {Q : List Value → Shared → Prop} (hh : A.handled = none) (ht : s.heap.IsList t items)
    (hQ : ∀ h', Heap.ExtBut s.heap.objs.size s.heap h' → Q items.toList { s with heap := h' }) : wpAny (model prog w) A (unpackItems (.ref t) items.size none) Q E s := by
  have hlt : t ≠ s.heap.objs.size := by obtain ⟨o, ho, _⟩ := ht; exact Nat.ne_of_lt (Heap.lt_size ho)
  unfold unpackItems
  refine wpAny_bind ?_
  · unfold notIterableAtAll
    refine wpAny_bind (wpAny_specialOf ht.typeIs slot_list_iter.lookup ?_)
    refine wpAny_pure ?_
    simp only [Bool.false_eq_true, if_false]
    refine wpAny_bind (wpAny_holding (wpAny_pyIter_list ht ?_))
    refine wpAny_bind (wpAny_holding (draw_list hlt items.size 0 _ _ ⟨_, Heap.get?_push_size _ rfl, rfl, rfl⟩ (ht.push _) (by omega) fun h₁ hit₁ hs₁ => ?_))
    have hall : List.take items.size (List.drop 0 items.toList) = items.toList := by
      rw [List.drop_zero]; exact List.take_of_length_le (by simp)
    rw [hall]
    rw [if_neg (by simp)]
    have ht₁ : h₁.IsList t items := (ht.push _).extBut hs₁.extBut hlt
    refine wpAny_bind (wpAny_holding (wpAny_pyNext_list_end hh hit₁ ht₁ (by simp) fun h₂ he₂ => ?_))
    simp only [Option.isSome_none, Bool.false_eq_true, if_false]
    refine wpAny_pure (hQ h₂ fun b o hb e => he₂ b o hb (hs₁.extBut b o hb (Heap.get?_push_of_some _ e)))
theorem assign_Tuple_list {env : PySem.Env} {elts : List Expr} {x1} {pos : Pos} {t : Addr} {items : Array Value} {Q : Unit → Shared → Prop} (hh : A.handled = none) (ht : s.heap.IsList t items)
    (hn : (assignEach elts env).length = items.size) (hstar : (assignEach elts env).findIdx? (·.1) = none)
    (h : ∀ h', Heap.ExtBut s.heap.objs.size s.heap h' → wpAny (model prog w) A (assignInOrder ((assignEach elts env).map (·.2)) items.toList) Q E { s with heap := h' }) :
    wpAny (model prog w) A (assign (.Tuple elts x1 pos) env (.ref t)) Q E s := by
  rw [assign_Tuple]
  refine wpAny_bind (wpAny_standAt ?_)
  unfold unpack
  rw [hn, hstar]
  exact wpAny_bind (wpAny_holding (unpackItems_list hh ht h))
end
/-- (a, b, ..) = a list or a tuple of that length -/
def gRow (K : KF) (n : Nat) (t : TGs) : TG := fun v σ H Q => ∃ a xs, v = .ref a ∧ (SqT K H a xs ∨ SqL K H a xs) ∧ xs.length = n ∧ t xs σ H Q
theorem pg_row {X : Cx} {pos : Pos} {es : List Expr} {k : Nat} {t : TGs} {n : Nat} (hc : X.calm = true) (h : PGs X es t)
    (hn : (assignEach es X.env).length = n := by rfl) (hst : (assignEach es X.env).findIdx? (·.1) = none := by rfl) : PG X (.Tuple es k pos) (gRow X.K n t) := by
  refine ⟨fun pins s σ H v u Q I r hw => ?_⟩
  obtain ⟨a, xs, e1, hq | hq, hl, hw⟩ := hw
  · exact (pg_tup hc h hn hst).run pins s σ H v u Q I r ⟨a, xs, e1, hq, hl, hw⟩
  subst e1
  cases r
  obtain ⟨its, rv, ht, hz⟩ := I.list hq
  refine assign_Tuple_list (I.ok.hd hc) ht.isList (by simp [hn, ← hl, rv.length]) hst fun h' hx => ?_
  have I1 : Inv X pins σ H { s with heap := h' } := I.kept (t' := s.toks) fun b o e => hx b o (Nat.ne_of_lt (Heap.lt_size e)) e
  exact h.run pins _ σ H xs _ Q I1 (by simpa using rv) hw
def rowOf : D → Option (List D)
  | .tup xs => some xs
  | .lst xs => some xs
  | _ => none
@[simp] theorem rowOf_tup (xs : List D) : rowOf (.tup xs) = some xs := rfl
@[simp] theorem rowOf_lst (xs : List D) : rowOf (.lst xs) = some xs := rfl
/-! ### targets -/
/-- the store of data by a target -/
def rG (K : KF) (F0 H0 : Hp) : Env → L2.St → Hp → Hp → Prop := fun ρ σ F H => SL K F0 H0 ρ σ F H
def Else (is : List Nat) (σ σ' : L2.St) : Prop := σ'.length = σ.length ∧ ∀ j, j ∉ is → σ'[j]? = σ[j]?
def tT (K : KF) (is : List Nat) (g : D → Env → Option Env) : TG := fun v σ H Q => ∃ F0 H0 ρ F d ρ', SL K F0 H0 ρ σ F H ∧ Rep K F v d ∧ g d ρ = some ρ' ∧ ∀ σ' F' H', Grow F H F' H' → SL K F0 H0 ρ' σ' F' H' → Else is σ σ' → Q σ' H'
def tTs (K : KF) (is : List Nat) (g : List D → Env → Option Env) : TGs := fun vs σ H Q => ∃ F0 H0 ρ F ds ρ', SL K F0 H0 ρ σ F H ∧ RepL K F vs ds ∧ g ds ρ = some ρ' ∧ ∀ σ' F' H', Grow F H F' H' → SL K F0 H0 ρ' σ' F' H' → Else is σ σ' → Q σ' H'
abbrev DG (X : Cx) (tg : Expr) (is : List Nat) (g : D → Env → Option Env) : Prop := PG X tg (tT X.K is g)
abbrev DGs (X : Cx) (ts : List Expr) (is : List Nat) (g : List D → Env → Option Env) : Prop := PGs X ts (tTs X.K is g)
theorem pgWeak {t t' : TG} (h : PG X tg t) (w : ∀ v σ H Q, t' v σ H Q → t v σ H Q) : PG X tg t' := ⟨fun pins s σ H v u Q I r q => h.run pins s σ H v u Q I r (w v σ H Q q)⟩
theorem pgsWeak {ts : List Expr} {t t' : TGs} (h : PGs X ts t) (w : ∀ v σ H Q, t' v σ H Q → t v σ H Q) : PGs X ts t' := ⟨fun pins s σ H v u Q I r q => h.run pins s σ H v u Q I r (w v σ H Q q)⟩
def setD (i : Nat) : D → Env → Option Env := fun d ρ => some (ρ.set i (some (.d d)))
theorem SL.setS {K : KF} {F0 H0 F H : Hp} {ρ : Env} {σ : L2.St} (z : SL K F0 H0 ρ σ F H) (i : Nat) {v : V} {s : S} (r : SlotOk K H0 F H s v)
    (ap : s.own = true → ∀ (j : Nat) (t : S) (a : Addr), j ≠ i → ρ[j]? = some (some t) → t.own = true → v = .ref a → σ[j]? ≠ some (some (.ref a))) : SL K F0 H0 (ρ.set i (some s)) (σ.set i (some v)) F H := by
  by_cases hi : i < ρ.length
  · have hi2 : i < σ.length := by rw [z.len]; exact hi
    refine ⟨z.grow, by simp [z.len], fun j t e => ?_, fun j k t u a hjk e1 e2 o1 o2 f1 f2 => ?_⟩
    · by_cases hj : i = j
      · subst hj
        rw [List.getElem?_set_self hi] at e
        cases e
        exact ⟨v, List.getElem?_set_self hi2, r⟩
      · rw [List.getElem?_set_ne hj] at e ⊢
        exact z.slot j t e
    · by_cases hj : i = j
      · subst hj
        rw [List.getElem?_set_ne hjk] at e2 f2
        rw [List.getElem?_set_self hi] at e1
        rw [List.getElem?_set_self hi2] at f1
        cases e1
        exact ap o1 k u a (Ne.symm hjk) e2 o2 (by simpa using f1) f2
      · rw [List.getElem?_set_ne hj] at e1 f1
        by_cases hk : i = k
        · subst hk
          rw [List.getElem?_set_self hi] at e2
          rw [List.getElem?_set_self hi2] at f2
          cases e2
          exact ap o2 j t a (Ne.symm hj) e1 o1 (by simpa using f2) f1
        · rw [List.getElem?_set_ne hk] at e2 f2
          exact z.apart j k t u a hjk e1 e2 o1 o2 f1 f2
  · have e1 : ρ.set i (some s) = ρ := List.set_eq_of_length_le (by omega)
    have e2 : σ.set i (some v) = σ := List.set_eq_of_length_le (by rw [z.len]; omega)
    rw [e1, e2]
    exact z
theorem SL.setD {K : KF} {F0 H0 F H : Hp} {ρ : Env} {σ : L2.St} (z : SL K F0 H0 ρ σ F H) (i : Nat) {v : V} {d : D} (r : Rep K F v d) : SL K F0 H0 (ρ.set i (some (.d d))) (σ.set i (some v)) F H := z.setS i (s := .d d) r fun h => by cases h
theorem dg_name {i : Nat} (h : PG X tg (gName i)) : DG X tg [i] (setD i) := pgWeak h fun v σ H Q ⟨F0, H0, ρ, F, d, ρ', z, r, e, k⟩ => by
  cases e
  exact k _ _ _ (Grow.refl z.sub) (z.setD i r) ⟨List.length_set, fun j hj => List.getElem?_set_ne (fun e => hj (by simp [e]))⟩
theorem dgs_nil : DGs X [] [] (fun ds ρ => match ds with | [] => some ρ | _ => none) := pgsWeak pgs_nil fun vs σ H Q ⟨F0, H0, ρ, F, ds, ρ', z, r, e, k⟩ => by
  cases r with
  | nil => cases e; exact ⟨rfl, k _ _ _ (Grow.refl z.sub) z ⟨rfl, fun _ _ => rfl⟩⟩
  | cons _ _ => cases e
variable {ts : List Expr} {is js : List Nat} {g1 : D → Env → Option Env} {gs : List D → Env → Option Env}
theorem dgs_cons (h1 : DG X tg is g1) (h2 : DGs X ts js gs) (hs : (assignEach (tg :: ts) X.env).map (·.2) = assign tg X.env :: (assignEach ts X.env).map (·.2) := by rfl) :
    DGs X (tg :: ts) (is ++ js) (fun ds ρ => match ds with | [] => none | d :: r => (g1 d ρ).bind (gs r)) := pgsWeak (pgs_cons h1 h2 hs) fun vs σ H Q ⟨F0, H0, ρ, F, ds, ρ', z, r, e, k⟩ => by
  cases r with
  | nil => cases e
  | cons r1 r2 =>
    obtain ⟨ρ1, e1, e2⟩ := Option.bind_eq_some_iff.mp e
    exact ⟨_, _, rfl, F0, H0, ρ, F, _, ρ1, z, r1, e1, fun σ1 F1 H1 gr z1 el1 => ⟨F0, H0, ρ1, F1, _, ρ', z1, r2.mono gr.ff, e2, fun σ2 F2 H2 gr2 z2 el2 => k σ2 F2 H2 (gr.trans gr2) z2 ⟨el2.1.trans el1.1, fun j hj => (el2.2 j fun h => hj (List.mem_append_right _ h)).trans (el1.2 j fun h => hj (List.mem_append_left _ h))⟩⟩⟩
theorem dg_tup {k n : Nat} (hc : X.calm = true) (h : DGs X ts is gs) (hn : (assignEach ts X.env).length = n := by rfl) (hst : (assignEach ts X.env).findIdx? (·.1) = none := by rfl) :
    DG X (.Tuple ts k pos) is (fun d ρ => (rowOf d).bind fun xs => if xs.length = n then gs xs ρ else none) := pgWeak (pg_row hc h hn hst) fun v σ H Q ⟨F0, H0, ρ, F, d, ρ', z, r, e, k⟩ => by
  cases r with
  | @tup a vs xs f q =>
    have e : (if xs.length = n then gs xs ρ else none) = some ρ' := e
    split at e
    · rename_i hl
      exact ⟨_, _, rfl, .inl (f.sq2 z.sub), by rw [q.len]; exact hl, F0, H0, ρ, F, xs, ρ', z, q, e, k⟩
    · cases e
  | @lst a vs xs f q =>
    have e : (if xs.length = n then gs xs ρ else none) = some ρ' := e
    split at e
    · rename_i hl
      exact ⟨_, _, rfl, .inr (SqL.of (z.sub _ _ f)), by rw [q.len]; exact hl, F0, H0, ρ, F, xs, ρ', z, q, e, k⟩
    · cases e
  | _ => cases e
end
end DL
/-! DL6: comprehensions. -/
namespace DL
open PySem PySem.Spec PyProof.Rows L2

def wipeE (ρ : Env) : List Nat → Env
  | [] => ρ
  | v :: vs => (wipeE ρ vs).set v none
def lcAll (item : D → Option (Option D)) : List D → Option (List D)
  | [] => some []
  | d :: ds => (item d).bind fun o => (lcAll item ds).map fun ys => match o with
    | some y => y :: ys
    | none => ys
def calm {α : Type} : R α → Option α
  | .ok a => some a
  | _ => none
/-- one turn of a comprehension: what the item gives, or that it is left out -/
def lcItem (vs : List Nat) (gt : D → Env → Option Env) (tt : Env → R Bool) (fe : Env → R D) (ρ : Env) (d : D) : Option (Option D) :=
  (gt d (wipeE ρ vs)).bind fun ρ1 => (calm (tt ρ1)).bind fun k => if k = true then (calm (fe ρ1)).map some else some none
def few (items : List D) : Prop := items.length ≤ 16777216
instance (items : List D) : Decidable (few items) := inferInstanceAs (Decidable (items.length ≤ 16777216))
def lcF (vs : List Nat) (gt : D → Env → Option Env) (tt : Env → R Bool) (fe : Env → R D) (ρ : Env) (items : List D) : Option (List D) :=
  if few items then lcAll (lcItem vs gt tt fe ρ) items else none

section
variable {K : KF} {F0 H0 F H : Hp} {ρ : Env} {σ : L2.St}
theorem wipe_at (σ : L2.St) (j : Nat) : ∀ vs : List Nat, (wipe σ vs)[j]? = if j ∈ vs then (σ[j]?).map fun _ => none else σ[j]?
  | [] => by simp [wipe]
  | v :: vs => by
    unfold wipe
    by_cases h : v = j
    · subst h
      rw [List.getElem?_set]
      simp only [if_pos trivial, wipe_length, List.mem_cons, true_or, if_pos]
      by_cases hl : v < σ.length
      · simp [hl]
      · simp [hl]
    · rw [List.getElem?_set_ne h, wipe_at σ j vs]
      simp [Ne.symm h]
theorem wipeE_at (σ : Env) (j : Nat) : ∀ vs : List Nat, (wipeE σ vs)[j]? = if j ∈ vs then (σ[j]?).map fun _ => none else σ[j]?
  | [] => by simp [wipeE]
  | v :: vs => by
    unfold wipeE
    have hlen : ∀ vs : List Nat, (wipeE σ vs).length = σ.length := fun vs => by
      induction vs with
      | nil => rfl
      | cons a r ih => unfold wipeE; rw [List.length_set, ih]
    by_cases h : v = j
    · subst h
      rw [List.getElem?_set]
      simp only [if_pos trivial, hlen, List.mem_cons, true_or, if_pos]
      by_cases hl : v < σ.length
      · simp [hl]
      · simp [hl]
    · rw [List.getElem?_set_ne h, wipeE_at σ j vs]
      simp [Ne.symm h]
theorem wipeE_length (σ : Env) : ∀ vs : List Nat, (wipeE σ vs).length = σ.length
  | [] => rfl
  | v :: vs => by unfold wipeE; rw [List.length_set, wipeE_length σ vs]
theorem SL.wipe (z : SL K F0 H0 ρ σ F H) (vs : List Nat) : SL K F0 H0 (wipeE ρ vs) (wipe σ vs) F H := by
  have key : ∀ i s, (wipeE ρ vs)[i]? = some (some s) → ρ[i]? = some (some s) ∧ (L2.wipe σ vs)[i]? = σ[i]? := fun i s e => by
    rw [wipeE_at] at e
    rw [wipe_at]
    split at e
    · cases q : ρ[i]? <;> rw [q] at e <;> cases e
    · rename_i hn
      rw [if_neg hn]
      exact ⟨e, rfl⟩
  refine ⟨z.grow, by rw [wipe_length, wipeE_length, z.len], fun i s e => ?_, fun i j s t a hij e1 e2 o1 o2 f1 => ?_⟩
  · obtain ⟨h1, h2⟩ := key i s e
    rw [h2]
    exact z.slot i s h1
  · obtain ⟨h1, h2⟩ := key i s e1
    obtain ⟨h3, h4⟩ := key j t e2
    rw [h2] at f1
    rw [h4]
    exact z.apart i j s t a hij h1 h3 o1 o2 f1
/-- an object that no slot owns is written -/
theorem SL.poke (z : SL K F0 H0 ρ σ F H) {a : Addr} {o : HO} (hf : F a = none) (h0 : H0 a = none) (hs : ∀ (i : Nat) (s : S), ρ[i]? = some (some s) → s.own = true → σ[i]? ≠ some (some (V.ref a))) : SL K F0 H0 ρ σ F (upd H a o) := by
  refine ⟨⟨fun b u e => ?_, z.grow.ff, fun b u e => ?_, z.grow.nn⟩, z.len, fun i s e => ?_, z.apart⟩
  · have hb : b ≠ a := fun q => by rw [q, h0] at e; cases e
    rw [upd_ne hb]; exact z.grow.hh b u e
  · have hb : b ≠ a := fun q => by rw [q, hf] at e; cases e
    rw [upd_ne hb]; exact z.grow.fh b u e
  · obtain ⟨v, e1, ok⟩ := z.slot i s e
    refine ⟨v, e1, ?_⟩
    cases s with
    | d x => exact ok
    | ml xs =>
      obtain ⟨b, vs, eb, k0, kf, kh, r⟩ := ok
      subst eb
      have hb : b ≠ a := fun q => hs i _ e rfl (by rw [e1, q])
      exact ⟨b, vs, rfl, k0, kf, by rw [upd_ne hb]; exact kh, r⟩
    | md xs =>
      obtain ⟨b, vs, eb, k0, kf, kh, r⟩ := ok
      subst eb
      have hb : b ≠ a := fun q => hs i _ e rfl (by rw [e1, q])
      exact ⟨b, vs, rfl, k0, kf, by rw [upd_ne hb]; exact kh, r⟩
    | ob a0 n all fs =>
      obtain ⟨b, C, dx, vs, eb, k0, kf, kh, r⟩ := ok
      subst eb
      have hb : b ≠ a := fun q => hs i _ e rfl (by rw [e1, q])
      exact ⟨b, C, dx, vs, rfl, k0, kf, by rw [upd_ne hb]; exact kh, r⟩
    | xc a0 c => exact ok
theorem Else.wipe {is vs : List Nat} {σ' : L2.St} (e : Else is (L2.wipe σ vs) σ') (hv : ∀ i ∈ is, i ∈ vs) : L2.wipe σ' vs = L2.wipe σ vs := by
  have hl : σ'.length = σ.length := by rw [e.1, wipe_length]
  apply List.ext_getElem?
  intro j
  rw [wipe_at, wipe_at]
  split
  · rename_i hj
    by_cases h : j < σ.length
    · rw [List.getElem?_eq_getElem h, List.getElem?_eq_getElem (show j < σ'.length by omega)]; rfl
    · rw [List.getElem?_eq_none (show σ'.length ≤ j by omega), List.getElem?_eq_none (show σ.length ≤ j by omega)]
  · rename_i hj
    rw [e.2 j fun h => hj (hv j h), wipe_at, if_neg hj]
end

section
variable {X : Cx} {W W1 W2 : Wish} {elt tg iter : Expr} {ifs : List Expr} {scope : Scope} {own : List (Str × Nat)} {pos : Pos} {fi : Env → R (List D)} {is : List Nat} {gt : D → Env → Option Env} {tt : Env → R Bool} {fe : Env → R D}
abbrev DTs (X : Cx) (W : Wish) (ifs : List Expr) (f : Env → R Bool) : Prop := PTs X ifs (tG X.K W rT f)
theorem dts_nil : DTs X W [] (fun _ => .ok true) := ⟨fun pins s σ H Q I ⟨F0, H0, ρ, F, z, h⟩ => pts_nil.run pins s σ H Q I (h _ _ _ (Grow.refl z.sub) rfl)⟩
theorem dts_one {c : Expr} (h : DT X W c tt) : DTs X W [c] tt := pts_one h
theorem _root_.DL.Grow.poke {F H F' H' : Hp} {a : Addr} {o : HO} (g : Grow F H F' H') (hf : F' a = none) (h0 : H a = none) : Grow F H F' (upd H' a o) :=
  ⟨fun b u e => by rw [upd_ne (ne_of_none e h0)]; exact g.hh b u e, g.ff, fun b u e => by rw [upd_ne (ne_of_none e hf)]; exact g.fh b u e, g.nn⟩
theorem lcAll_cons {item : D → Option (Option D)} {d : D} {ds rest : List D} (e : lcAll item (d :: ds) = some rest) : ∃ o r, item d = some o ∧ lcAll item ds = some r ∧ rest = match o with | some y => y :: r | none => r := by
  unfold lcAll at e
  obtain ⟨o, e1, e2⟩ := Option.bind_eq_some_iff.mp e
  obtain ⟨r, e3, e4⟩ := Option.map_eq_some_iff.mp e2
  exact ⟨o, r, e1, e3, by rw [← e4]; cases o <;> rfl⟩
theorem calm_some {α : Type} {r : R α} {a : α} (h : calm r = some a) : r = .ok a := by
  cases r with
  | ok b => cases h; rfl
  | _ => cases h
theorem apart_new {σ : L2.St} {ρ : Env} {K : KF} {F0 H0 F H : Hp} {a : Addr} (z : SL K F0 H0 ρ σ F H) (hD : H a = none) : ∀ (i : Nat) (s : S), ρ[i]? = some (some s) → s.own = true → σ[i]? ≠ some (some (V.ref a)) := fun i s e1 o e2 => by
  obtain ⟨v, e3, ok⟩ := z.slot i s e1
  rw [e2] at e3
  cases e3
  cases s with
  | d x => cases o
  | ml xs =>
    obtain ⟨b, vs, eb, _, _, kh, _⟩ := ok
    cases eb
    rw [hD] at kh; cases kh
  | md xs =>
    obtain ⟨b, vs, eb, _, _, kh, _⟩ := ok
    cases eb
    rw [hD] at kh; cases kh
  | ob a0 n all fs =>
    obtain ⟨b, C, dx, vs, eb, _, _, kh, _⟩ := ok
    cases eb
    rw [hD] at kh; cases kh
  | xc a0 c => cases o
theorem lc_reads {vs : List Nat} (h0 : ∀ i ∈ is, i ∈ vs) {σ : L2.St} {H : Hp} {Q : VK} (h : tG X.K W (rF X.K) (fun ρ => (fi ρ).bind fun items => R.of (lcF vs gt tt fe ρ items)) σ H Q) :
    tLc (tG X.K W (rI X.K) fi) (tT X.K is gt) (tG X.K W1 rT tt) (tG X.K W2 (rV X.K) fe) vs σ H Q := by
  obtain ⟨F0, H0, ρ, F, z, h⟩ := h
  refine post_bind z rF_early h fun F1 H1 J items z1 g1 it h => ?_
  obtain ⟨ys, e, hF⟩ := post_of h
  unfold lcF at e
  by_cases hfew : few items
  case neg => rw [if_neg hfew] at e; cases e
  rw [if_pos hfew] at e
  obtain ⟨G, Y, w, hG, hY⟩ := it
  intro Dd hD
  have hF1D : F1 Dd = none := z1.sub.out hD
  have h0D : H0 Dd = none := z1.grow.hh.free hD
  have zw := z1.wipe vs
  have apart := apart_new zw hD
  refine lc_it w (fun i H => ∃ F acc done rest, SL X.K F0 H0 (wipeE ρ vs) (L2.wipe σ vs) F H ∧ Grow F1 H1 F H ∧ F Dd = none ∧ H Dd = some (.lst acc) ∧ RepL X.K F acc done ∧ acc.length ≤ i ∧
    lcAll (lcItem vs gt tt fe ρ) (items.drop i) = some rest ∧ done ++ rest = ys) ?_ ?_ ?_ ?_
  · exact ⟨F1, [], [], ys, zw.poke hF1D h0D apart, Grow.own z1.sub hD, hF1D, upd_same, .nil, Nat.le_refl _, e, rfl⟩
  · rintro i H hi ⟨F, _, _, _, zz, g, _⟩
    exact hG F H g.ff zz.sub
  · rintro i x H H' hi ⟨F, acc, dn, rest, zz, g, fD, hD2, ra, la, ea, eq⟩ y
    obtain ⟨d, F', ed, g2, r⟩ := hY i F H x H' g.ff zz.sub hi y
    have edr : items.drop i = d :: items.drop (i + 1) := by
      rw [List.drop_eq_getElem_cons hi]
      rw [List.getElem?_eq_getElem hi] at ed
      cases ed; rfl
    rw [edr] at ea
    obtain ⟨o, rest', e1, e2, e3⟩ := lcAll_cons ea
    subst e3
    unfold lcItem at e1
    obtain ⟨ρ1, e4, e5⟩ := Option.bind_eq_some_iff.mp e1
    obtain ⟨k, e6, e7⟩ := Option.bind_eq_some_iff.mp e5
    have e6 := calm_some e6
    have hHD : ∀ {F' H' : Hp}, Grow F H F' H' → F' Dd = none ∧ H' Dd = some (.lst acc) := fun gg => ⟨gg.nn Dd (by rw [hD2]; simp) fD, gg.hh _ _ hD2⟩
    refine ⟨F0, H0, wipeE ρ vs, F', d, ρ1, zz.up g2, r, e4, fun σ2 F2 H2 g3 z2 el => ⟨el.wipe h0, F0, H0, ρ1, F2, z2, ?_⟩⟩
    · rw [e6]
      intro b F3 H3 g4 hb
      cases hb
      have g24 := (g2.trans g3).trans g4
      cases k with
      | true =>
        rw [if_pos rfl] at e7 ⊢
        obtain ⟨yv, e8, e9⟩ := Option.map_eq_some_iff.mp e7
        subst e9
        have e8 := calm_some e8
        refine ⟨F0, H0, ρ1, F3, z2.up g4, ?_⟩
        rw [e8]
        intro v F4 H4 g5 rv
        have gg := g24.trans g5
        obtain ⟨f4, h4⟩ := hHD gg
        refine ⟨acc, h4, ?_, F4, acc ++ [v], dn ++ [yv], rest', (zz.up gg).poke f4 h0D apart, (g.trans gg).poke f4 hD, f4, upd_same, (ra.mono gg.ff).app (.cons rv .nil), ?_, e2, ?_⟩
        · rw [sizeLine_eq]
          have : items.length ≤ 16777216 := hfew
          omega
        · rw [List.length_append, List.length_singleton]; omega
        · rw [← eq, List.append_assoc]; rfl
      | false =>
        rw [if_neg Bool.false_ne_true] at e7 ⊢
        cases e7
        obtain ⟨f3, h3⟩ := hHD g24
        exact ⟨F3, acc, dn, rest', zz.up g24, g.trans g24, f3, h3, ra.mono g24.ff, by omega, e2, eq⟩
  · rintro H ⟨F, acc, dn, rest, zz, g, fD, hD2, ra, la, ea, eq⟩
    rw [List.drop_length] at ea
    cases ea
    rw [List.append_nil] at eq
    subst eq
    exact hF _ _ _ g ⟨Dd, acc, rfl, hD, fD, hD2, ra⟩
/-- [elt for tg in iter if ..], a new list -/
theorem df_lc (hc : X.calm = true) (hN : X.N.Nodup) (hi : DI X W tg iter fi) (ok : BlkOk X.N X.env.scope scope own)
    (hg : ∀ (s : Shared) (H : Hp) (C : Addr) (cl : List (Str × Addr)) (fp : List Addr), DG (X.blk s H scope (compEnvC scope cl C X.env) fp) tg is gt)
    (ht : ∀ (s : Shared) (H : Hp) (C : Addr) (cl : List (Str × Addr)) (fp : List Addr), DTs (X.blk s H scope (compEnvC scope cl C X.env) fp) W1 ifs tt)
    (he : ∀ (s : Shared) (H : Hp) (C : Addr) (cl : List (Str × Addr)) (fp : List Addr), DV (X.blk s H scope (compEnvC scope cl C X.env) fp) W2 elt fe)
    (h0 : ∀ i ∈ is, i ∈ own.map (·.2)) (hs : ∀ x, foldedSetIterable iter X.env x = pure x := by intro _; rfl) :
    DF X W (.ListComp elt [⟨tg, iter, ifs, 0⟩] scope pos) (fun ρ => (fi ρ).bind fun items => R.of (lcF (own.map (·.2)) gt tt fe ρ items)) :=
  (pe_lc hc hN hi ok hg ht he hs).weak fun σ H Q h => lc_reads h0 h
/-- name = [..] -/
theorem ps_lcG {i : Nat} {y : Str} {py spos : Pos} (hc : X.calm = true) (hN : X.N.Nodup) (hy : X.N[i]? = some y) (hyl : X.env.scope.names.lookup y = some .local)
    (hsw : swapsWith (.ListComp elt [⟨tg, iter, ifs, 0⟩] scope pos) (some (.Name y py)) spos.line X.env = pure true) (hi : DI X W tg iter fi) (ok : BlkOk X.N X.env.scope scope own)
    (hg : ∀ (s : Shared) (H : Hp) (C : Addr) (cl : List (Str × Addr)) (fp : List Addr), DG (X.blk s H scope (compEnvC scope cl C X.env) fp) tg is gt)
    (ht : ∀ (s : Shared) (H : Hp) (C : Addr) (cl : List (Str × Addr)) (fp : List Addr), DTs (X.blk s H scope (compEnvC scope cl C X.env) fp) W1 ifs tt)
    (he : ∀ (s : Shared) (H : Hp) (C : Addr) (cl : List (Str × Addr)) (fp : List Addr), DV (X.blk s H scope (compEnvC scope cl C X.env) fp) W2 elt fe)
    (h0 : ∀ i ∈ is, i ∈ own.map (·.2)) (hs : ∀ x, foldedSetIterable iter X.env x = pure x := by intro _; rfl) :
    PS X (.Assign [.Name y py] (.ListComp elt [⟨tg, iter, ifs, 0⟩] scope pos) spos) (tAsg (tG X.K W (rF X.K) (fun ρ => (fi ρ).bind fun items => R.of (lcF (own.map (·.2)) gt tt fe ρ items))) (gName i)) :=
  (ps_setLc hc hN hy hyl hsw hi ok hg ht he hs).weak fun D σ H h => lc_reads h0 h
end
end DL
/-! DL7: statements, loops, functions. -/
namespace DL
open PySem PySem.Spec PyProof.Rows L2

/-- how a statement ends -/
inductive Out where
  | nx (ρ : Env)
  | rt (r : Ret)
  | bk (ρ : Env)
  | ct (ρ : Env)
  | ex (c : Str) (ρ : Env)
def OutOk (K : KF) (W : Wish) (F0 H0 : Hp) (D : Ends) : Out → Prop
  | .nx ρ => ∀ σ F H, SL K F0 H0 ρ σ F H → D.nx σ H
  | .bk ρ => ∀ σ F H, SL K F0 H0 ρ σ F H → D.bk σ H
  | .ct ρ => ∀ σ F H, SL K F0 H0 ρ σ F H → D.ct σ H
  | .ex c ρ => ∀ σ F H, SL K F0 H0 ρ σ F H → W c σ H
  | .rt (.val d) => ∀ v F H, Grow F0 H0 F H → Rep K F v d → D.rt v H
  | .rt (.frl xs) => ∀ v F H, Grow F0 H0 F H → rF K F0 H0 F H v xs → D.rt v H
def tS (K : KF) (W : Wish) (g : Env → Option Out) : TS := fun D σ H => ∃ F0 H0 ρ F o, SL K F0 H0 ρ σ F H ∧ g ρ = some o ∧ OutOk K W F0 H0 D o
abbrev DS (X : Cx) (W : Wish) (st : Stmt) (g : Env → Option Out) : Prop := PS X st (tS X.K W g)
abbrev DSs (X : Cx) (W : Wish) (st : List Stmt) (g : Env → Option Out) : Prop := PSs X st (tS X.K W g)
def withR {α : Type} (r : R α) (ρ : Env) (k : α → Option Out) : Option Out := match r with
  | .ok a => k a
  | .err c => some (.ex c ρ)
  | .stuck => none
@[simp] theorem withR_ok {α : Type} (a : α) (ρ : Env) (k : α → Option Out) : withR (.ok a) ρ k = k a := rfl
@[simp] theorem withR_err {α : Type} (c : Str) (ρ : Env) (k : α → Option Out) : withR (.err c : R α) ρ k = some (.ex c ρ) := rfl
@[simp] theorem withR_stuck {α : Type} (ρ : Env) (k : α → Option Out) : withR (.stuck : R α) ρ k = none := rfl
def seqO (o : Option Out) (k : Env → Option Out) : Option Out := o.bind fun o => match o with
  | .nx ρ => k ρ
  | o => some o
@[simp] theorem seqO_nx (ρ : Env) (k : Env → Option Out) : seqO (some (.nx ρ)) k = k ρ := rfl
@[simp] theorem seqO_rt (r : Ret) (k : Env → Option Out) : seqO (some (.rt r)) k = some (.rt r) := rfl
@[simp] theorem seqO_bk (ρ : Env) (k : Env → Option Out) : seqO (some (.bk ρ)) k = some (.bk ρ) := rfl
@[simp] theorem seqO_ct (ρ : Env) (k : Env → Option Out) : seqO (some (.ct ρ)) k = some (.ct ρ) := rfl
@[simp] theorem seqO_ex (c : Str) (ρ : Env) (k : Env → Option Out) : seqO (some (.ex c ρ)) k = some (.ex c ρ) := rfl
@[simp] theorem seqO_none (k : Env → Option Out) : seqO none k = none := rfl

section
variable {K : KF} {W : Wish} {F0 H0 F H : Hp} {ρ : Env} {σ : L2.St} {D : Ends} {o : Out}
/-- first an expression, then what is done with its value -/
theorem tS_expr {β α : Type} {r : Rel β α} {f : Env → R α} {k : α → Option Out} {q : β → Hp → Prop} (z : SL K F0 H0 ρ σ F H) (e : withR (f ρ) ρ k = some o) (ho : OutOk K W F0 H0 D o)
    (hk : ∀ b a F1 H1, SL K F0 H0 ρ σ F1 H1 → Grow F H F1 H1 → r F H F1 H1 b a → k a = some o → q b H1) : tG K W r f σ H q := by
  refine ⟨F0, H0, ρ, F, z, ?_⟩
  cases h : f ρ with
  | stuck => rw [h] at e; cases e
  | err c =>
    rw [h] at e
    cases e
    exact fun F1 H1 g => ho σ F1 H1 (z.up g)
  | ok a =>
    rw [h] at e
    exact fun b F1 H1 g hr => hk b a F1 H1 (z.up g) g hr e
theorem tS_of {g : Env → Option Out} (z : SL K F0 H0 ρ σ F H) (e : g ρ = some o) (ho : OutOk K W F0 H0 D o) : tS K W g D σ H := ⟨F0, H0, ρ, F, o, z, e, ho⟩
end

section
variable {X : Cx} {W : Wish} {st : Stmt} {sts : List Stmt} {g g1 g2 : Env → Option Out} {pos : Pos} {e : Expr}
theorem dss_nil : DSs X W [] (fun ρ => some (.nx ρ)) := pss_nil.weak fun D σ H ⟨F0, H0, ρ, F, o, z, e, ho⟩ => by
  cases e
  exact ho σ F H z
theorem dss_cons (h1 : DS X W st g1) (h2 : DSs X W sts g2) : DSs X W (st :: sts) (fun ρ => seqO (g1 ρ) g2) := (pss_cons h1 h2).weak fun D σ H ⟨F0, H0, ρ, F, o, z, e, ho⟩ => by
  have e : seqO (g1 ρ) g2 = some o := e
  cases q : g1 ρ with
  | none => rw [q] at e; cases e
  | some o1 =>
    rw [q] at e
    refine ⟨F0, H0, ρ, F, o1, z, q, ?_⟩
    cases o1 with
    | nx ρ1 => exact fun σ1 F1 H1 z1 => ⟨F0, H0, ρ1, F1, o, z1, e, ho⟩
    | rt r => cases e; cases r <;> exact ho
    | bk ρ1 => cases e; exact ho
    | ct ρ1 => cases e; exact ho
    | ex c ρ1 => cases e; exact ho
theorem dss_one (h1 : DS X W st g1) : DSs X W [st] g1 := pss_one h1
theorem ds_pass : DS X W (.Pass pos) (fun ρ => some (.nx ρ)) := ps_pass.weak fun D σ H ⟨F0, H0, ρ, F, o, z, e, ho⟩ => by cases e; exact ho σ F H z
theorem ds_break : DS X W (.Break pos) (fun ρ => some (.bk ρ)) := ps_break.weak fun D σ H ⟨F0, H0, ρ, F, o, z, e, ho⟩ => by cases e; exact ho σ F H z
theorem ds_continue : DS X W (.Continue pos) (fun ρ => some (.ct ρ)) := ps_continue.weak fun D σ H ⟨F0, H0, ρ, F, o, z, e, ho⟩ => by cases e; exact ho σ F H z
theorem ds_doc {x j pos'} : DS X W (.Expr (.Constant (.str x) j pos) pos') (fun ρ => some (.nx ρ)) := ps_doc.weak fun D σ H ⟨F0, H0, ρ, F, o, z, e, ho⟩ => by cases e; exact ho σ F H z
theorem ds_never : DS X W st (fun _ => none) := ps_never.weak fun D σ H ⟨F0, H0, ρ, F, o, z, e, ho⟩ => by cases e
/-- name = e -/
theorem ds_set {i : Nat} {f : Env → R D} (h : PS X st (tAsg (tG X.K W (rV X.K) f) (gName i))) : DS X W st (fun ρ => withR (f ρ) ρ fun d => some (.nx (ρ.set i (some (.d d))))) := h.weak fun D σ H ⟨F0, H0, ρ, F, o, z, e, ho⟩ =>
  tS_expr z e ho fun v d F1 H1 z1 g1 r e => by
    cases e
    exact ho _ F1 H1 (z1.setD i r)
/-- name = e, e a new list of one's own -/
theorem ds_setF {i : Nat} {f : Env → R (List D)} (h : PS X st (tAsg (tG X.K W (rF X.K) f) (gName i))) : DS X W st (fun ρ => withR (f ρ) ρ fun d => some (.nx (ρ.set i (some (.ml d))))) := h.weak fun D σ H ⟨F0, H0, ρ, F, o, z, e, ho⟩ =>
  tS_expr z e ho fun v xs F1 H1 z1 g1 r e => by
    cases e
    obtain ⟨a, vs, rfl, h0, hf, hh, rl⟩ := r
    refine ho _ F1 H1 (z1.setS i (s := .ml xs) ⟨a, vs, rfl, z.grow.hh.free h0, hf, hh, rl⟩ fun _ j t b hj e1 o1 eb e2 => ?_)
    cases eb
    exact apart_new z h0 j t e1 o1 e2
/-- a target that is not a name = e -/
theorem ds_asg {is : List Nat} {f : Env → R D} {gt : D → Env → Option Env} (h : PS X st (tAsg (tG X.K W (rV X.K) f) (tT X.K is gt))) : DS X W st (fun ρ => withR (f ρ) ρ fun d => (gt d ρ).map .nx) := h.weak fun D σ H ⟨F0, H0, ρ, F, o, z, e, ho⟩ =>
  tS_expr z e ho fun v d F1 H1 z1 g1 r e => by
    obtain ⟨ρ1, e1, e2⟩ := Option.map_eq_some_iff.mp e
    subst e2
    exact ⟨F0, H0, ρ, F1, d, ρ1, z1, r, e1, fun σ2 F2 H2 g2 z2 _ => ho σ2 F2 H2 z2⟩
theorem ds_expr {f : Env → R D} (h : PS X st (tDrop (tG X.K W (rV X.K) f))) : DS X W st (fun ρ => withR (f ρ) ρ fun _ => some (.nx ρ)) := h.weak fun D σ H ⟨F0, H0, ρ, F, o, z, e, ho⟩ =>
  tS_expr z e ho fun v d F1 H1 z1 g1 r e => by
    cases e
    exact ho σ F1 H1 z1
theorem ds_ret {f : Env → R D} (h : DV X W e f) : DS X W (.Return (some e) pos) (fun ρ => withR (f ρ) ρ fun d => some (.rt (.val d))) := (ps_ret h).weak fun D σ H ⟨F0, H0, ρ, F, o, z, e, ho⟩ =>
  tS_expr z e ho fun v d F1 H1 z1 g1 r e => by
    cases e
    exact ho v F1 H1 z1.grow r
theorem ds_retF {f : Env → R (List D)} (h : DF X W e f) : DS X W (.Return (some e) pos) (fun ρ => withR (f ρ) ρ fun d => some (.rt (.frl d))) := (ps_ret h).weak fun D σ H ⟨F0, H0, ρ, F, o, z, e, ho⟩ =>
  tS_expr z e ho fun v d F1 H1 z1 g1 r e => by
    cases e
    obtain ⟨a, vs, rfl, h0, r⟩ := r
    exact ho _ F1 H1 z1.grow ⟨a, vs, rfl, z.grow.hh.free h0, r⟩
/-- return xs, xs a list of one's own -/
theorem ds_retOwn (i : Nat) {x : Str} {p : Pos} (h : PE X (.Name x p) (tVar i)) : DS X W (.Return (some (.Name x p)) pos) (fun ρ => match ρ[i]? with | some (some (.ml xs)) => some (.rt (.frl xs)) | _ => none) := (ps_ret h).weak fun D σ H ⟨F0, H0, ρ, F, o, z, e, ho⟩ => by
  have e : (match ρ[i]? with | some (some (.ml xs)) => some (Out.rt (.frl xs)) | _ => none) = some o := e
  split at e
  · rename_i xs q
    cases e
    obtain ⟨v, e1, a, vs, rfl, h0, hf, hh, r⟩ := z.slot i _ q
    exact ⟨_, e1, ho _ F H z.grow ⟨a, vs, rfl, h0, hf, hh, r⟩⟩
  · cases e
theorem ds_retN : DS X W (.Return none pos) (fun _ => some (.rt (.val .non))) := ps_retN.weak fun D σ H ⟨F0, H0, ρ, F, o, z, e, ho⟩ => by
  cases e
  exact ho _ F H z.grow .non
theorem ds_if {c : Expr} {a b : List Stmt} {tc : Env → R Bool} (hc : DT X W c tc) (ha : DSs X W a g1) (hb : DSs X W b g2) : DS X W (.If c a b pos) (fun ρ => withR (tc ρ) ρ fun k => if k = true then g1 ρ else g2 ρ) := (ps_if hc ha hb).weak fun D σ H ⟨F0, H0, ρ, F, o, z, e, ho⟩ =>
  tS_expr z e ho fun k d F1 H1 z1 gg r e => by
    cases r
    cases k with
    | true => exact ⟨F0, H0, ρ, F1, o, z1, e, ho⟩
    | false => exact ⟨F0, H0, ρ, F1, o, z1, e, ho⟩
def slotL (i : Nat) (ρ : Env) : Option (List D) := match ρ[i]? with
  | some (some (.ml xs)) => some xs
  | _ => none
theorem slotL_some {i : Nat} {ρ : Env} {xs : List D} (h : slotL i ρ = some xs) : ρ[i]? = some (some (.ml xs)) := by
  unfold slotL at h
  split at h
  · rename_i q; cases h; exact q
  · cases h
/-- a list of one's own is written -/
theorem SL.updL {K : KF} {F0 H0 F H : Hp} {ρ : Env} {σ : L2.St} (z : SL K F0 H0 ρ σ F H) {i : Nat} {xs ys : List D} {a : Addr} {us : List V} (q : ρ[i]? = some (some (.ml xs))) (e1 : σ[i]? = some (some (.ref a))) (r : RepL K F us ys) :
    SL K F0 H0 (ρ.set i (some (.ml ys))) σ F (upd H a (.lst us)) := by
  obtain ⟨v', e1', a', vs', ea, h0, hf, hh, _⟩ := z.slot i _ q
  rw [e1] at e1'
  cases e1'
  cases ea
  have ap : ∀ (j : Nat) (t : S), ρ[j]? = some (some t) → t.own = true → j ≠ i → σ[j]? ≠ some (some (V.ref a)) := fun j t e3 o3 hj e4 => z.apart j i t _ a hj e3 q o3 rfl e4 e1
  have hi : i < ρ.length := (List.getElem?_eq_some_iff.mp q).1
  have z2 : SL K F0 H0 (ρ.set i none) (σ.set i none) F H := z.wipe [i]
  have z3 := z2.poke (o := .lst us) hf h0 fun j t e3 o3 e4 => by
    by_cases hj : i = j
    · subst hj
      rw [List.getElem?_set_self hi] at e3
      cases e3
    · rw [List.getElem?_set_ne hj] at e3 e4
      exact ap j t e3 o3 (Ne.symm hj) e4
  have z4 := z3.setS i (v := .ref a) (s := .ml ys) ⟨a, us, rfl, h0, hf, upd_same, r⟩ fun _ j t b hj e3 o3 eb e4 => by
    cases eb
    rw [List.getElem?_set_ne (Ne.symm hj)] at e3 e4
    exact ap j t e3 o3 hj e4
  rw [List.set_set, List.set_set] at z4
  have es : σ.set i (some (.ref a)) = σ := by
    apply List.ext_getElem?
    intro j
    by_cases hj : i = j
    · subst hj
      rw [List.getElem?_set_self (by rw [z.len]; exact hi), e1]
    · rw [List.getElem?_set_ne hj]
  rw [es] at z4
  exact z4
/-- xs.append(e), xs a list of one's own -/
theorem ds_append (i : Nat) {x : Str} {p apos cpos : Pos} {f : Env → R D} (hv : PE X (.Name x p) (tVar i)) (he : DV X W e f)
    (hst : starEach (e :: []) X.env = (false, eval e X.env) :: starEach [] X.env := by rfl)
    (hbase : attributeBase (.Name x p) "append" X.env (eval (.Name x p) X.env) = eval (.Name x p) X.env := by rfl)
    (hfew : ((backTo cpos (starEach (e :: []) X.env)).all (fun x => !x.1) && (backToKw cpos (keywordEach [] X.env)).all (fun x => x.1.isSome)
      && decide ((e :: []).length + ([] : List Keyword).length + (if ([] : List Keyword).isEmpty then 0 else 1) < 30)) = true := by rfl)
    (hline : (apos.endLine == cpos.line) = true := by rfl) (hplain : (backTo cpos (starEach [] X.env)).any (·.1) = false := by rfl)
    (hs : swapsWith (.Call (.Attribute (.Name x p) "append" apos) [e] [] cpos) none pos.line X.env = pure false := by rfl) :
    DS X W (.Expr (.Call (.Attribute (.Name x p) "append" apos) [e] [] cpos) pos) (fun ρ => (slotL i ρ).bind fun xs => withR (f ρ) ρ fun d => if xs.length < 16777216 then some (.nx (ρ.set i (some (.ml (xs ++ [d]))))) else none) :=
  (ps_expr (pe_bm PySem.F.plainAttrs_list PySem.F.slot_list_append PySem.F.type_list_append mt_append hv (pa_cons he pa_nil hst) hbase hfew hline hst hplain) hs).weak fun D σ H ⟨F0, H0, ρ, F, o, z, e, ho⟩ => by
    obtain ⟨xs, q, e⟩ := Option.bind_eq_some_iff.mp e
    have q := slotL_some q
    obtain ⟨v, e1, a, vs, rfl, h0, hf, hh, r⟩ := z.slot i _ q
    refine ⟨_, e1, .inl ⟨rfl, vs, SqL.of hh⟩, tS_expr z e ho fun w d F1 H1 z1 g1 rw e => ?_⟩
    obtain ⟨v', e1', a', vs', ea, h0', hf', hh', r'⟩ := z1.slot i _ q
    rw [e1] at e1'
    cases e1'
    cases ea
    split at e
    · rename_i hl
      cases e
      exact ⟨a, vs', w, rfl, rfl, hh', by rw [sizeLine_eq, r'.len]; exact hl, ho σ F1 _ (z1.updL q e1 (r'.app (.cons rw .nil)))⟩
    · cases e
def insD (xs : List D) (j d : D) : Option (List D) := match j with
  | .int j => if xs.length < 16777216 ∧ 0 ≤ j ∧ j ≤ xs.length then some (xs.take j.toNat ++ [d] ++ xs.drop j.toNat) else none
  | _ => none
theorem insD_some {xs ys : List D} {j d : D} (h : insD xs j d = some ys) : ∃ k : Int, j = .int k ∧ (xs.length < 16777216 ∧ 0 ≤ k ∧ k ≤ xs.length) ∧ ys = xs.take k.toNat ++ [d] ++ xs.drop k.toNat := by
  unfold insD at h
  split at h
  · split at h
    · rename_i k hk
      cases h
      exact ⟨_, rfl, hk, rfl⟩
    · cases h
  · cases h
/-- xs.insert(i, e), 0 ≤ i ≤ len -/
theorem ds_insert (i : Nat) {x : Str} {p apos cpos : Pos} {e2 : Expr} {f f2 : Env → R D} (hv : PE X (.Name x p) (tVar i)) (he : DV X W e f) (he2 : DV X W e2 f2)
    (hst : starEach (e :: [e2]) X.env = (false, eval e X.env) :: starEach [e2] X.env := by rfl) (hst2 : starEach (e2 :: []) X.env = (false, eval e2 X.env) :: starEach [] X.env := by rfl)
    (hbase : attributeBase (.Name x p) "insert" X.env (eval (.Name x p) X.env) = eval (.Name x p) X.env := by rfl)
    (hfew : ((backTo cpos (starEach (e :: [e2]) X.env)).all (fun x => !x.1) && (backToKw cpos (keywordEach [] X.env)).all (fun x => x.1.isSome)
      && decide ((e :: [e2]).length + ([] : List Keyword).length + (if ([] : List Keyword).isEmpty then 0 else 1) < 30)) = true := by rfl)
    (hline : (apos.endLine == cpos.line) = true := by rfl) (hplain : (backTo cpos (starEach [e2] X.env)).any (·.1) = false := by rfl)
    (hs : swapsWith (.Call (.Attribute (.Name x p) "insert" apos) [e, e2] [] cpos) none pos.line X.env = pure false := by rfl) :
    DS X W (.Expr (.Call (.Attribute (.Name x p) "insert" apos) [e, e2] [] cpos) pos) (fun ρ => (slotL i ρ).bind fun xs => withR (f ρ) ρ fun j => withR (f2 ρ) ρ fun d => (insD xs j d).map fun ys => .nx (ρ.set i (some (.ml ys)))) :=
  (ps_expr (pe_bm PySem.F.plainAttrs_list PySem.F.slot_list_insert PySem.F.type_list_insert mt_insert hv (pa_cons he (pa_cons he2 pa_nil hst2) hst) hbase hfew hline hst hplain) hs).weak fun D σ H ⟨F0, H0, ρ, F, o, z, e, ho⟩ => by
    obtain ⟨xs, q, e⟩ := Option.bind_eq_some_iff.mp e
    have q := slotL_some q
    obtain ⟨v, e1, a, vs, rfl, h0, hf, hh, r⟩ := z.slot i _ q
    refine ⟨_, e1, .inl ⟨rfl, vs, SqL.of hh⟩, tS_expr z e ho fun w j F1 H1 z1 g1 rw e => tS_expr z1 e ho fun w2 d F2 H2 z2 g2 rw2 e => ?_⟩
    obtain ⟨v', e1', a', vs', ea, h0', hf', hh', r'⟩ := z2.slot i _ q
    rw [e1] at e1'
    cases e1'
    cases ea
    obtain ⟨ys, e3, e4⟩ := Option.map_eq_some_iff.mp e
    subst e4
    obtain ⟨k, ek, hl, ey⟩ := insD_some e3
    subst ek ey
    have ew : w = .int k := by
      have rw' : Rep X.K F1 w (.int k) := rw
      cases rw'; rfl
    subst ew
    exact ⟨a, vs', k, w2, rfl, rfl, hh', by rw [sizeLine_eq, r'.len]; exact hl.1, hl.2.1, by omega, ho σ F2 _ (z2.updL q e1 (((r'.take _).app (.cons rw2 .nil)).app (r'.drop _)))⟩
end
end DL
/-! DL8: for, op=, functions. -/
namespace DL
open PySem PySem.Spec PyProof.Rows L2

def afterO (o : Out) (k : Env → Option Out) : Option Out := match o with
  | .nx ρ => k ρ
  | .ct ρ => k ρ
  | .bk ρ => some (.nx ρ)
  | .rt r => some (.rt r)
  | .ex c ρ => some (.ex c ρ)
@[simp] theorem afterO_nx (ρ : Env) (k : Env → Option Out) : afterO (.nx ρ) k = k ρ := rfl
@[simp] theorem afterO_ct (ρ : Env) (k : Env → Option Out) : afterO (.ct ρ) k = k ρ := rfl
@[simp] theorem afterO_bk (ρ : Env) (k : Env → Option Out) : afterO (.bk ρ) k = some (.nx ρ) := rfl
@[simp] theorem afterO_rt (r : Ret) (k : Env → Option Out) : afterO (.rt r) k = some (.rt r) := rfl
@[simp] theorem afterO_ex (c : Str) (ρ : Env) (k : Env → Option Out) : afterO (.ex c ρ) k = some (.ex c ρ) := rfl
def forD (gt : D → Env → Option Env) (g : Env → Option Out) : List D → Env → Option Out
  | [], ρ => some (.nx ρ)
  | d :: ds, ρ => (gt d ρ).bind fun ρ1 => (g ρ1).bind fun o => afterO o (forD gt g ds)

def join (F H : Hp) : Hp := fun a => match F a with
  | some o => some o
  | none => H a
theorem join_F {F H : Hp} {a : Addr} {o : HO} (h : F a = some o) : join F H a = some o := by unfold join; rw [h]
theorem join_none {F H : Hp} {a : Addr} (h : F a = none) : join F H a = H a := by unfold join; rw [h]
theorem join_out {F H : Hp} {a : Addr} (h : join F H a = none) : F a = none ∧ H a = none := by
  unfold join at h
  cases q : F a with
  | some o => rw [q] at h; cases h
  | none => rw [q] at h; exact ⟨rfl, h⟩
section
variable {K : KF} {F0 H0 F1 H1 F H : Hp} {ρ ρ0 : Env} {σ σ0 : L2.St}
theorem join_sub (z : SL K F0 H0 ρ0 σ0 F1 H1) : Same (join F1 H0) H1 := fun a o e => by
  cases q : F1 a with
  | some u => rw [join_F q] at e; cases e; exact z.grow.fh _ _ q
  | none => rw [join_none q] at e; exact z.grow.hh _ _ e
theorem join_sup (z : SL K F0 H0 ρ0 σ0 F1 H1) {a : Addr} {o : HO} (h : H0 a = some o) : join F1 H0 a = some o := by
  cases q : F1 a with
  | some u =>
    rw [join_F q]
    have e1 := z.grow.fh _ _ q
    rw [z.grow.hh _ _ h] at e1
    exact e1.symm
  | none => rw [join_none q]; exact h
theorem SL.rebase (z : SL K F0 H0 ρ0 σ0 F1 H1) : SL K F1 (join F1 H0) ρ0 σ0 F1 H1 := by
  refine ⟨⟨join_sub z, Same.refl _, z.grow.fh, fun a _ h => h⟩, z.len, fun i s e => ?_, z.apart⟩
  obtain ⟨v, e1, ok⟩ := z.slot i s e
  refine ⟨v, e1, ?_⟩
  cases s with
  | d x => exact ok
  | ml xs =>
    obtain ⟨b, vs, eb, k0, kf, kh, r⟩ := ok
    exact ⟨b, vs, eb, by rw [join_none kf]; exact k0, kf, kh, r⟩
  | md xs =>
    obtain ⟨b, vs, eb, k0, kf, kh, r⟩ := ok
    exact ⟨b, vs, eb, by rw [join_none kf]; exact k0, kf, kh, r⟩
  | ob a0 n all fs =>
    obtain ⟨b, C, dx, vs, eb, k0, kf, kh, r⟩ := ok
    exact ⟨b, C, dx, vs, eb, by rw [join_none kf]; exact k0, kf, kh, r⟩
  | xc a9 c9 => exact ok
theorem Grow.unbase (z : SL K F0 H0 ρ0 σ0 F1 H1) (g : Grow F1 (join F1 H0) F H) : Grow F0 H0 F H :=
  ⟨fun a o e => g.hh a o (join_sup z e), z.grow.ff.trans g.ff, g.fh, fun a h f => by
    have f1 := z.grow.nn a h f
    refine g.nn a ?_ f1
    rw [join_none f1]; exact h⟩
theorem SL.unbase (z : SL K F0 H0 ρ0 σ0 F1 H1) (w : SL K F1 (join F1 H0) ρ σ F H) : SL K F0 H0 ρ σ F H := by
  refine ⟨w.grow.unbase z, w.len, fun i s e => ?_, w.apart⟩
  obtain ⟨v, e1, ok⟩ := w.slot i s e
  refine ⟨v, e1, ?_⟩
  cases s with
  | d x => exact ok
  | ml xs =>
    obtain ⟨b, vs, eb, k0, kf, kh, r⟩ := ok
    exact ⟨b, vs, eb, (join_out k0).2, kf, kh, r⟩
  | md xs =>
    obtain ⟨b, vs, eb, k0, kf, kh, r⟩ := ok
    exact ⟨b, vs, eb, (join_out k0).2, kf, kh, r⟩
  | ob a0 n all fs =>
    obtain ⟨b, C, dx, vs, eb, k0, kf, kh, r⟩ := ok
    exact ⟨b, C, dx, vs, eb, (join_out k0).2, kf, kh, r⟩
  | xc a9 c9 => exact ok
end

section
variable {X : Cx} {W : Wish} {tg iter : Expr} {body : List Stmt} {is : List Nat} {fi : Env → R (List D)} {gt : D → Env → Option Env} {g : Env → Option Out} {pos : Pos}
theorem ds_for (hp : PassesOwn (model X.prog X.w) X.A X.env X.xe) (hc : X.calm = true) (hi : DI X W tg iter fi) (hg : DG X tg is gt) (hb : DSs X W body g) (hs : ∀ x, foldedSetIterable iter X.env x = pure x := by intro _; rfl) :
    DS X W (.For tg iter body [] pos) (fun ρ => withR (fi ρ) ρ fun items => forD gt g items ρ) := (ps_for hp hc hi hg hb hs).weak fun Dn σ H ⟨F0, H0, ρ, F, o, z, e, ho⟩ =>
  tS_expr z e ho fun J items F1 H1 z1 g1 it e => by
    obtain ⟨G, Y, w, hG, hY⟩ := it
    refine for_it w (fun i σ H => ∃ ρ F, SL X.K F1 (join F1 H0) ρ σ F H ∧ forD gt g (items.drop i) ρ = some o) ⟨ρ, F1, z1.rebase, e⟩ ?_ ?_ ?_
    · rintro i σ H hi ⟨ρ, F, zz, _⟩
      exact hG F H zz.grow.ff zz.sub
    · rintro i x σ H H' hi ⟨ρ, F, zz, e⟩ y
      obtain ⟨d, F', ed, g2, r⟩ := hY i F H x H' zz.grow.ff zz.sub hi y
      have edr : items.drop i = d :: items.drop (i + 1) := by
        rw [List.drop_eq_getElem_cons hi]
        rw [List.getElem?_eq_getElem hi] at ed
        cases ed; rfl
      rw [edr] at e
      unfold forD at e
      obtain ⟨ρ1, e1, e2⟩ := Option.bind_eq_some_iff.mp e
      obtain ⟨o1, e3, e4⟩ := Option.bind_eq_some_iff.mp e2
      refine ⟨F1, join F1 H0, ρ, F', d, ρ1, zz.up g2, r, e1, fun σ2 F2 H2 g3 z2 el => ⟨F1, join F1 H0, ρ1, F2, o1, z2, e3, ?_⟩⟩
      cases o1 with
      | nx ρ2 => exact fun σ F H z => ⟨ρ2, F, z, e4⟩
      | ct ρ2 => exact fun σ F H z => ⟨ρ2, F, z, e4⟩
      | bk ρ2 => cases e4; exact fun σ F H z => ho σ F H (z1.unbase z)
      | rt r =>
        cases e4
        cases r with
        | val d => exact fun v F H gg r => ho v F H (gg.unbase z1) r
        | frl xs => exact fun v F H gg ⟨a, vs, ea, h0, r⟩ => ho v F H (gg.unbase z1) ⟨a, vs, ea, (join_out h0).2, r⟩
      | ex c ρ2 => cases e4; exact fun σ F H z => ho σ F H (z1.unbase z)
    · rintro σ H ⟨ρ, F, zz, e⟩
      rw [List.drop_length] at e
      cases e
      exact ho σ F H (z1.unbase zz)
end

section
variable {X : Cx} {W : Wish} {st : Stmt} {sts : List Stmt} {e : Expr} {pos : Pos} {g : Env → Option Out}
def slotD (i : Nat) (ρ : Env) : Option D := match ρ[i]? with
  | some (some (.d x)) => some x
  | _ => none
theorem slotD_some {i : Nat} {ρ : Env} {x : D} (h : slotD i ρ = some x) : ρ[i]? = some (some (.d x)) := by
  unfold slotD at h
  split at h
  · rename_i q; cases h; exact q
  · cases h
/-- name op= e -/
theorem ds_aug {i : Nat} {f : Env → R D} {r : R2} {op : D → D → Option D}
    (hg : ∀ F H v u x y d (Q : VK), Same F H → RepB X.K F H v x → RepB X.K F H u y → op x y = some d → (∀ w F' H', Grow F H F' H' → Rep X.K F' w d → Q w H') → r v u H Q)
    (h : PS X st (tAug i (tG X.K W (rV X.K) f) r)) : DS X W st (fun ρ => (slotD i ρ).bind fun x => withR (f ρ) ρ fun y => (op x y).map fun d => .nx (ρ.set i (some (.d d)))) := h.weak fun Dn σ H ⟨F0, H0, ρ, F, o, z, e, ho⟩ => by
  obtain ⟨x, q, e⟩ := Option.bind_eq_some_iff.mp e
  have q := slotD_some q
  obtain ⟨v, e1, rv⟩ := z.slot i _ q
  refine ⟨v, e1, tS_expr z e ho fun u y F1 H1 z1 g1 ry e => ?_⟩
  obtain ⟨d, e2, e3⟩ := Option.map_eq_some_iff.mp e
  subst e3
  refine hg F1 H1 v u x y d _ z1.sub (.rep (Rep.mono (show Rep X.K F v x from rv) g1.ff)) (.rep ry) e2 fun w F' H' g2 rw => ho _ F' H' ((z1.up g2).setD i rw)
def oAug : D → D → Option D
  | .int i, .int j => some (.int (i + j))
  | .str a, .str b => if a.length + b.length ≤ 16777216 then some (.str (a ++ b)) else none
  | _, _ => none
theorem aug_add : ∀ F H v u x y d (Q : VK), Same F H → RepB X.K F H v x → RepB X.K F H u y → oAug x y = some d → (∀ w F' H', Grow F H F' H' → Rep X.K F' w d → Q w H') →
    (fun x y H Q => (rI0 fun i j => .int (i + j)) x y H Q ∨ (∃ i j, x = .str i ∧ y = .str j ∧ i.length + j.length ≤ sizeLine ∧ Q (.str (i ++ j)) H)) v u H Q := fun F H v u x y d Q s r1 r2 e h => by
  unfold oAug at e
  split at e
  · cases e; exact .inl ⟨_, _, r1.int, r2.int, h _ _ _ (Grow.refl s) (.int _)⟩
  · split at e
    · rename_i hl
      cases e; exact .inr ⟨_, _, r1.str, r2.str, by rw [sizeLine_eq]; exact hl, h _ _ _ (Grow.refl s) (.str _)⟩
    · cases e
  · cases e

/-- the list of one's own at i stays as it is from here on -/
def freeze (i : Nat) (ρ : Env) : Env := match ρ[i]? with
  | some (some (.ml xs)) => ρ.set i (some (.d (.lst xs)))
  | some (some (.md xs)) => ρ.set i (some (.d (.dct xs)))
  | some (some (.ob _ n _ fs)) => ρ.set i (some (.d (.obj n fs)))
  | _ => ρ
theorem SL.freezeAt {K : KF} {F0 H0 F H : Hp} {ρ : Env} {σ : L2.St} (z : SL K F0 H0 ρ σ F H) {i : Nat} {s : S} {d : D} {a : Addr} {o : HO} (q : ρ[i]? = some (some s)) (os : s.own = true) (e1 : σ[i]? = some (some (.ref a))) (h0 : H0 a = none) (hf : F a = none) (hh : H a = some o)
    (r : Rep K (upd F a o) (.ref a) d) : SL K F0 H0 (ρ.set i (some (.d d))) σ (upd F a o) H := by
  have up : Same F (upd F a o) := Same.add hf
  have hi : i < ρ.length := (List.getElem?_eq_some_iff.mp q).1
  refine ⟨⟨z.grow.hh, z.grow.ff.trans up, fun b u e => ?_, fun b hb e => ?_⟩, by rw [List.length_set]; exact z.len, fun j t e => ?_, fun j k t u b hjk e2 e3 o1 o2 f1 => ?_⟩
  · by_cases hb : b = a
    · subst hb; rw [upd_same] at e; cases e; exact hh
    · rw [upd_ne hb] at e; exact z.grow.fh b u e
  · rw [upd_ne (fun q => hb (by rw [q]; exact h0))]; exact z.grow.nn b hb e
  · by_cases hj : i = j
    · subst hj
      rw [List.getElem?_set_self hi] at e
      cases e
      exact ⟨_, e1, r⟩
    · rw [List.getElem?_set_ne hj] at e
      obtain ⟨v, e4, ok⟩ := z.slot j t e
      refine ⟨v, e4, ?_⟩
      have ne : t.own = true → v ≠ .ref a := fun ot ev => z.apart j i t s a (Ne.symm hj) e q ot os (by rw [e4, ev]) e1
      cases t with
      | d x => exact Rep.mono (show Rep K F v x from ok) up
      | ml xs =>
        obtain ⟨b, vs, eb, k0, kf, kh, r⟩ := ok
        exact ⟨b, vs, eb, k0, by rw [upd_ne (fun q => ne rfl (by rw [eb, q]))]; exact kf, kh, r.mono up⟩
      | md xs =>
        obtain ⟨b, vs, eb, k0, kf, kh, r⟩ := ok
        exact ⟨b, vs, eb, k0, by rw [upd_ne (fun q => ne rfl (by rw [eb, q]))]; exact kf, kh, r.mono up⟩
      | ob a0 n all fs =>
        obtain ⟨b, C, dx, vs, eb, k0, kf, kh, r, c⟩ := ok
        exact ⟨b, C, dx, vs, eb, k0, by rw [upd_ne (fun q => ne rfl (by rw [eb, q]))]; exact kf, kh, r.mono up, c⟩
      | xc a9 c9 => exact ok
  · have nj : i ≠ j := fun hj => by
      subst hj
      rw [List.getElem?_set_self hi] at e2
      cases e2; cases o1
    have nk : i ≠ k := fun hj => by
      subst hj
      rw [List.getElem?_set_self hi] at e3
      cases e3; cases o2
    rw [List.getElem?_set_ne nj] at e2
    rw [List.getElem?_set_ne nk] at e3
    exact z.apart j k t u b hjk e2 e3 o1 o2 f1
theorem SL.frz {K : KF} {F0 H0 F H : Hp} {ρ : Env} {σ : L2.St} (z : SL K F0 H0 ρ σ F H) (i : Nat) : ∃ F', SL K F0 H0 (freeze i ρ) σ F' H := by
  unfold freeze
  split
  · rename_i xs q
    obtain ⟨v, e1, a, vs, rfl, h0, hf, hh, r⟩ := z.slot i _ q
    exact ⟨_, z.freezeAt q rfl e1 h0 hf hh (.lst upd_same (r.mono (Same.add hf)))⟩
  · rename_i xs q
    obtain ⟨v, e1, a, vs, rfl, h0, hf, hh, r⟩ := z.slot i _ q
    exact ⟨_, z.freezeAt q rfl e1 h0 hf hh (.dct upd_same (r.mono (Same.add hf)))⟩
  · rename_i a0 n all fs q
    obtain ⟨v, e1, a, C, dx, vs, rfl, h0, hf, hh, r, c, ca⟩ := z.slot i _ q
    exact ⟨_, z.freezeAt q rfl e1 h0 hf hh (.obj upd_same ⟨c.at_, c.cls, fun f hf => c.no f (ca.1 f hf)⟩ (r.mono (Same.add hf)))⟩
  · exact ⟨F, z⟩
theorem dss_frz (i : Nat) (h : DSs X W sts g) : DSs X W sts (fun ρ => g (freeze i ρ)) := h.weak fun Dn σ H ⟨F0, H0, ρ, F, o, z, e, ho⟩ => by
  obtain ⟨F', z'⟩ := z.frz i
  exact ⟨F0, H0, _, F', o, z', e, ho⟩
theorem ds_frz (i : Nat) (h : DS X W st g) : DS X W st (fun ρ => g (freeze i ρ)) := h.weak fun Dn σ H ⟨F0, H0, ρ, F, o, z, e, ho⟩ => by
  obtain ⟨F', z'⟩ := z.frz i
  exact ⟨F0, H0, _, F', o, z', e, ho⟩
end

/-! ### functions -/
def startE (N : Nat) (ds : List D) : Env := ds.map (fun d => some (.d d)) ++ List.replicate (N - ds.length) none
def endO : Out → R Ret
  | .nx _ => .ok (.val .non)
  | .rt r => .ok r
  | .ex c _ => .err c
  | _ => .stuck
def runD (N n : Nat) (g : Env → Option Out) (ds : List D) : R Ret := if ds.length = n then (R.of (g (startE N ds))).bind endO else .stuck
theorem sl_start {K : KF} {F H : Hp} {N : List Str} {vs : List V} {ds : List D} (s : Same F H) (r : RepL K F vs ds) : SL K F H (startE N.length ds) (L2.start N vs) F H := by
  refine ⟨Grow.refl s, by simp [startE, L2.start, r.len], fun i t e => ?_, fun i j t u a hij e1 e2 o1 o2 => ?_⟩
  · unfold startE at e
    by_cases hi : i < ds.length
    · rw [List.getElem?_append_left (by simpa using hi), List.getElem?_map] at e
      cases q : ds[i]? with
      | none => rw [q] at e; cases e
      | some d =>
        rw [q] at e
        cases e
        obtain ⟨v, hv, rv⟩ := r.get q
        refine ⟨v, ?_, rv⟩
        unfold L2.start
        rw [List.getElem?_append_left (by simpa [r.len] using hi), List.getElem?_map, hv]; rfl
    · rw [List.getElem?_append_right (by simpa using hi), List.getElem?_replicate] at e
      split at e <;> cases e
  · unfold startE at e1
    by_cases hi : i < ds.length
    · rw [List.getElem?_append_left (by simpa using hi), List.getElem?_map] at e1
      cases q : ds[i]? with
      | none => rw [q] at e1; cases e1
      | some d => rw [q] at e1; cases e1; cases o1
    · rw [List.getElem?_append_right (by simpa using hi), List.getElem?_replicate] at e1
      split at e1 <;> cases e1
section
variable {P : Program} {w : World} {K : KF} {mg : Str → Option Value} {base : Heap}
/-- THE RULE for a def: its body over data -/
theorem fn_ok {x qual : Str} {st : Stmt} {f : Addr} {fd : FuncData} {N ps : List Str} {k n : Nat} {g : Env → Option Out} (F : Fun K x qual st f fd) (Sc : FnScope N ps (defScope st)) (hn : ps.length = n)
    (hbody : ∀ (cdv : Value) (A : Around) (outer : List PySem.Env) (s : Shared) (H : Hp) (E : XK), Room k (A.deeper (envOfC qual (defScope st) s.heap.objs.size f cdv)) →
      DSs (cxOf (L2.CX P w) P w K mg base N qual (defScope st) f cdv A outer s H E) (wish mg fun cls d _ H => E cls d H) (defBody st) g) :
    FnOk P w K mg base (L2.CX P w) (k + 1) f fd ps (spD K mg n (runD N.length n g)) := by
  refine F.okX Sc (fun vs H Q E h => by rw [h.1, hn]) fun cdv A outer s H vs Q E hr h => ⟨_, hbody cdv A outer s H E hr, ?_⟩
  obtain ⟨hl, Fz, ds, sm, r, hp⟩ := h
  unfold runD at hp
  have hl2 : ds.length = n := by rw [← r.len]; exact hl
  rw [if_pos hl2] at hp
  cases q : g (startE N.length ds) with
  | none => rw [q] at hp; exact hp.elim
  | some o =>
    rw [q] at hp
    have hp : RetPost K mg Fz H Q E (endO o) := hp
    refine ⟨Fz, H, _, Fz, o, sl_start sm r, q, ?_⟩
    cases o with
    | nx ρ => exact fun σ F1 H1 z => hp .non F1 H1 z.grow .non
    | rt r =>
      cases r with
      | val d => exact fun v F1 H1 g r => hp v F1 H1 g r
      | frl xs => exact fun v F1 H1 g r => hp v F1 H1 g r
    | bk ρ => exact hp.elim
    | ct ρ => exact hp.elim
    | ex c ρ => exact fun σ F1 H1 z C hC => hp F1 H1 C z.grow hC
end
end DL
/-! DL9: the words in which a function's mirror is written; what stands of a def. -/
namespace DL
open PySem PySem.Spec PyProof.Rows L2

abbrev eC (d : D) : Env → R D := fun _ => .ok d
abbrev eOp (g : D → D → Option D) (a b : Env → R D) : Env → R D := fun ρ => (a ρ).bind fun x => (b ρ).bind fun y => R.of (g x y)
abbrev lOp (g : D → D → Option (List D)) (a b : Env → R D) : Env → R (List D) := fun ρ => (a ρ).bind fun x => (b ρ).bind fun y => R.of (g x y)
abbrev eCmp (g : D → D → Option Bool) (a b : Env → R D) : Env → R D := fun ρ => (a ρ).bind fun x => (b ρ).bind fun y => R.of ((g x y).map .bl)
abbrev bCmp (g : D → D → Option Bool) (a b : Env → R D) : Env → R Bool := fun ρ => (a ρ).bind fun x => (b ρ).bind fun y => R.of (g x y)
abbrev eNotInD (a b : Env → R D) : Env → R D := fun ρ => (a ρ).bind fun y => (b ρ).bind fun x => R.of ((cInD y x).map fun k => .bl (!k))
abbrev eUn (g : D → Option D) (a : Env → R D) : Env → R D := fun ρ => (a ρ).bind fun x => R.of (g x)
abbrev lUn (g : D → Option (List D)) (a : Env → R D) : Env → R (List D) := fun ρ => (a ρ).bind fun x => R.of (g x)
abbrev eIsi (n : String) (a : Env → R D) : Env → R D := fun ρ => (a ρ).bind fun y => R.of ((isB1 n y).map .bl)
abbrev eIsi2 (n m : String) (a : Env → R D) : Env → R D := fun ρ => (a ρ).bind fun y => R.of ((isBs [n, m] y).map .bl)
abbrev eIf {α : Type} (c : Env → R Bool) (a b : Env → R α) : Env → R α := fun ρ => (c ρ).bind fun k => if k = true then a ρ else b ρ
abbrev eAnd (a b : Env → R D) : Env → R D := fun ρ => (a ρ).bind fun x => (R.of (oBl x)).bind fun k => if k = true then b ρ else .ok (.bl false)
abbrev eOr (a b : Env → R D) : Env → R D := fun ρ => (a ρ).bind fun x => (R.of (oBl x)).bind fun k => if k = true then .ok (.bl true) else b ρ
abbrev bAnd (a b : Env → R Bool) : Env → R Bool := fun ρ => (a ρ).bind fun k => if k = true then b ρ else .ok false
abbrev bOr (a b : Env → R Bool) : Env → R Bool := fun ρ => (a ρ).bind fun k => if k = true then .ok true else b ρ
abbrev bNot (a : Env → R Bool) : Env → R Bool := fun ρ => (a ρ).bind fun k => .ok (!k)
abbrev bVal (a : Env → R D) : Env → R Bool := fun ρ => (a ρ).bind fun x => R.of (oBl x)
abbrev eChain (g g' : D → D → Option Bool) (a b c : Env → R D) : Env → R D := fun ρ => (a ρ).bind fun x => (b ρ).bind fun y => (R.of (g x y)).bind fun k => if k = true then (c ρ).bind fun w => R.of ((g' y w).map .bl) else .ok (.bl false)
abbrev bChain (g g' : D → D → Option Bool) (a b c : Env → R D) : Env → R Bool := fun ρ => (a ρ).bind fun x => (b ρ).bind fun y => (R.of (g x y)).bind fun k => if k = true then (c ρ).bind fun w => R.of (g' y w) else .ok false
abbrev pNone : Env → R (Option Int) := fun _ => .ok none
abbrev pSome (a : Env → R D) : Env → R (Option Int) := fun ρ => (a ρ).bind fun x => R.of (oI x)
abbrev lSl (a : Env → R D) (l h : Env → R (Option Int)) : Env → R (List D) := fun ρ => (a ρ).bind fun x => (l ρ).bind fun l => (h ρ).bind fun u => R.of (oSlL x l u)
abbrev eSlT (a : Env → R D) (l h : Env → R (Option Int)) : Env → R D := fun ρ => (a ρ).bind fun x => (l ρ).bind fun l => (h ρ).bind fun u => R.of (oSlT x l u)
def oSlR (x : D) (l u : Option Int) : Option D := match oSlL x l u with
  | some xs => some (.lst xs)
  | none => oSlT x l u
abbrev eSlR (a : Env → R D) (l h : Env → R (Option Int)) : Env → R D := fun ρ => (a ρ).bind fun x => (l ρ).bind fun l => (h ρ).bind fun u => R.of (oSlR x l u)
abbrev aNil : Env → R (List D) := fun _ => .ok []
abbrev aCons (a : Env → R D) (r : Env → R (List D)) : Env → R (List D) := fun ρ => (a ρ).bind fun x => (r ρ).bind fun xs => .ok (x :: xs)
abbrev eTup (r : Env → R (List D)) : Env → R D := fun ρ => (r ρ).bind fun xs => R.of ((mkL xs).map .tup)
abbrev lLst (r : Env → R (List D)) : Env → R (List D) := fun ρ => (r ρ).bind fun xs => R.of (mkL xs)
abbrev eFz (l : Env → R (List D)) : Env → R D := fun ρ => (l ρ).map .lst
abbrev eAttr (f : Str) (a : Env → R D) : Env → R D := fun ρ => (a ρ).bind fun x => R.of (oAttr f x)
abbrev eCall (m : List D → R Ret) (r : Env → R (List D)) : Env → R D := fun ρ => (r ρ).bind fun ds => (m ds).map Ret.v
abbrev lCall (m : List D → R Ret) (r : Env → R (List D)) : Env → R (List D) := fun ρ => (r ρ).bind fun ds => (m ds).bind fun r => R.of r.f
abbrev lLc (vs : List Nat) (gt : D → Env → Option Env) (tt : Env → R Bool) (fe : Env → R D) (fi : Env → R (List D)) : Env → R (List D) := fun ρ => (fi ρ).bind fun items => R.of (lcF vs gt tt fe ρ items)
abbrev bYes : Env → R Bool := fun _ => .ok true
abbrev gsNil : List D → Env → Option Env := fun ds ρ => match ds with | [] => some ρ | _ => none
abbrev gsCons (g1 : D → Env → Option Env) (gs : List D → Env → Option Env) : List D → Env → Option Env := fun ds ρ => match ds with | [] => none | d :: r => (g1 d ρ).bind (gs r)
abbrev gT (n : Nat) (gs : List D → Env → Option Env) : D → Env → Option Env := fun d ρ => (rowOf d).bind fun xs => if xs.length = n then gs xs ρ else none
abbrev iSeq (a : Env → R D) : Env → R (List D) := fun ρ => (a ρ).bind fun y => R.of (oItems y)
abbrev iR1 (a : Env → R D) : Env → R (List D) := fun ρ => (a ρ).bind fun y => R.of (oRg1 y)
abbrev iR2 (a b : Env → R D) : Env → R (List D) := fun ρ => (a ρ).bind fun x => (b ρ).bind fun y => R.of (oRg2 x y)
abbrev sNx : Env → Option Out := fun ρ => some (.nx ρ)
abbrev sSeq (a b : Env → Option Out) : Env → Option Out := fun ρ => seqO (a ρ) b
abbrev sSet (i : Nat) (f : Env → R D) : Env → Option Out := fun ρ => withR (f ρ) ρ fun d => some (.nx (ρ.set i (some (.d d))))
abbrev sSetF (i : Nat) (f : Env → R (List D)) : Env → Option Out := fun ρ => withR (f ρ) ρ fun d => some (.nx (ρ.set i (some (.ml d))))
abbrev sSetFz (i : Nat) (f : Env → R (List D)) : Env → Option Out := fun ρ => withR (f ρ) ρ fun d => some (.nx (ρ.set i (some (.d (.lst d)))))
abbrev sAsg (f : Env → R D) (gt : D → Env → Option Env) : Env → Option Out := fun ρ => withR (f ρ) ρ fun d => (gt d ρ).map .nx
abbrev sExpr (f : Env → R D) : Env → Option Out := fun ρ => withR (f ρ) ρ fun _ => some (.nx ρ)
abbrev sRet (f : Env → R D) : Env → Option Out := fun ρ => withR (f ρ) ρ fun d => some (.rt (.val d))
abbrev sRetF (f : Env → R (List D)) : Env → Option Out := fun ρ => withR (f ρ) ρ fun d => some (.rt (.frl d))
abbrev sRetOwn (i : Nat) : Env → Option Out := fun ρ => match ρ[i]? with | some (some (.ml xs)) => some (.rt (.frl xs)) | _ => none
abbrev sRetN : Env → Option Out := fun _ => some (.rt (.val .non))
abbrev sIf (c : Env → R Bool) (a b : Env → Option Out) : Env → Option Out := fun ρ => withR (c ρ) ρ fun k => if k = true then a ρ else b ρ
abbrev sApp (i : Nat) (f : Env → R D) : Env → Option Out := fun ρ => (slotL i ρ).bind fun xs => withR (f ρ) ρ fun d => if xs.length < 16777216 then some (.nx (ρ.set i (some (.ml (xs ++ [d]))))) else none
abbrev sIns (i : Nat) (f f2 : Env → R D) : Env → Option Out := fun ρ => (slotL i ρ).bind fun xs => withR (f ρ) ρ fun j => withR (f2 ρ) ρ fun d => (insD xs j d).map fun ys => .nx (ρ.set i (some (.ml ys)))
abbrev sAug (i : Nat) (f : Env → R D) : Env → Option Out := fun ρ => (slotD i ρ).bind fun x => withR (f ρ) ρ fun y => (oAug x y).map fun d => .nx (ρ.set i (some (.d d)))
abbrev sFor (fi : Env → R (List D)) (gt : D → Env → Option Env) (g : Env → Option Out) : Env → Option Out := fun ρ => withR (fi ρ) ρ fun items => forD gt g items ρ
abbrev sFrz (i : Nat) (g : Env → Option Out) : Env → Option Out := fun ρ => g (freeze i ρ)
abbrev sNever : Env → Option Out := fun _ => none

section
variable {X : Cx} {W : Wish} {st : Stmt} {pos : Pos}
/-- name = a new list that nothing will change -/
theorem ds_setFz {i : Nat} {f : Env → R (List D)} (h : PS X st (tAsg (tG X.K W (rF X.K) f) (gName i))) : DS X W st (sSetFz i f) := h.weak fun D σ H ⟨F0, H0, ρ, F, o, z, e, ho⟩ =>
  tS_expr z e ho fun v xs F1 H1 z1 g1 r e => by
    cases e
    obtain ⟨a, vs, rfl, h0, hf, hh, rl⟩ := r
    have up : Same F1 (upd F1 a (.lst vs)) := Same.add hf
    have gr : Grow F0 H0 (upd F1 a (.lst vs)) H1 := ⟨z1.grow.hh, z1.grow.ff.trans up, fun b o e => by
      by_cases hb : b = a
      · subst hb; rw [upd_same] at e; cases e; exact hh
      · rw [upd_ne hb] at e; exact z1.grow.fh b o e, fun b hb e => by
      rw [upd_ne (fun q => hb (by rw [q]; exact z.grow.hh.free h0))]; exact z1.grow.nn b hb e⟩
    have z2 : SL X.K F0 H0 ρ σ (upd F1 a (.lst vs)) H1 := by
      refine ⟨gr, z1.len, fun j t e => ?_, z1.apart⟩
      obtain ⟨w, e1, ok⟩ := z1.slot j t e
      refine ⟨w, e1, ?_⟩
      cases t with
      | d x => exact Rep.mono (show Rep X.K F1 w x from ok) up
      | ml ys =>
        obtain ⟨b, us, eb, k0, kf, kh, r⟩ := ok
        exact ⟨b, us, eb, k0, by rw [upd_ne (fun q => apart_new z h0 j _ e rfl (by rw [e1, eb, q]))]; exact kf, kh, r.mono up⟩
      | md ys =>
        obtain ⟨b, us, eb, k0, kf, kh, r⟩ := ok
        exact ⟨b, us, eb, k0, by rw [upd_ne (fun q => apart_new z h0 j _ e rfl (by rw [e1, eb, q]))]; exact kf, kh, r.mono up⟩
      | ob a0 n all fs =>
        obtain ⟨b, C, dx, us, eb, k0, kf, kh, r, c⟩ := ok
        exact ⟨b, C, dx, us, eb, k0, by rw [upd_ne (fun q => apart_new z h0 j _ e rfl (by rw [e1, eb, q]))]; exact kf, kh, r.mono up, c⟩
      | xc a9 c9 => exact ok
    exact ho _ _ H1 (z2.setD i (.lst upd_same (rl.mono up)))
theorem dv_globI {x : Str} {n : Int} (h : ∃ t, X.mg x = some (.int n t)) (hg : Gl X x) (hd : (x == ("__debug__" : Str)) = false := by decide) : DV X W (.Name x pos) (eC (.int n)) := by
  obtain ⟨t, h⟩ := h
  exact dv_c (v := .int n) (pe_glob hg h ⟨t, rfl⟩ hd) fun _ => .int _
theorem dv_globS {x : Str} {n : Str} (h : ∃ t, X.mg x = some (.str n t)) (hg : Gl X x) (hd : (x == ("__debug__" : Str)) = false := by decide) : DV X W (.Name x pos) (eC (.str n)) := by
  obtain ⟨t, h⟩ := h
  exact dv_c (v := .str n) (pe_glob hg h ⟨t, rfl⟩ hd) fun _ => .str _
end
/-- a def of the text stands under its name -/
def Has (K : KF) (mg : Str → Option Value) (x : Str) (st : Stmt) (ps : List Str) : Prop := ∃ f fd, mg x = some (.ref f) ∧ Fun K x x st f fd ∧ Binds K fd ps []
/-- the def under the name x keeps the mirror m, by at most level k -/
def Keeps (P : Program) (w : World) (K : KF) (mg : Str → Option Value) (base : Heap) (x : Str) (k : Nat) (ps : List Str) (n : Nat) (m : List D → R Ret) : Prop :=
  ∃ f fd, mg x = some (.ref f) ∧ PySem.W.keepIn K (.ref f) = true ∧ Binds K fd ps [] ∧ FnOk P w K mg base (L2.CX P w) k f fd ps (spD K mg n m)
section
variable {P : Program} {w : World} {K : KF} {mg : Str → Option Value} {base : Heap}
theorem keeps_of {x : Str} {st : Stmt} {N ps : List Str} {k n : Nat} {g : Env → Option Out} (h : Has K mg x st ps) (Sc : FnScope N ps (defScope st)) (hn : ps.length = n)
    (hbody : ∀ (f : Addr) (cdv : Value) (A : Around) (outer : List PySem.Env) (s : Shared) (H : Hp) (E : XK), Room k (A.deeper (envOfC x (defScope st) s.heap.objs.size f cdv)) →
      DSs (cxOf (L2.CX P w) P w K mg base N x (defScope st) f cdv A outer s H E) (wish mg fun cls d _ H => E cls d H) (defBody st) g) :
    Keeps P w K mg base x (k + 1) ps n (runD N.length n g) := by
  obtain ⟨f, fd, h1, h2, h3⟩ := h
  exact ⟨f, fd, h1, h2.kp, h3, fn_ok h2 Sc hn (hbody f)⟩
end
section
variable {X : Cx} {W' : WX} {e : Expr} {es : List Expr} {fs : Env → R (List D)} {m : List D → R Ret} {k n : Nat} {ps : List Str} {x : Str} {p pos : Pos}
theorem dv_callK (G : Keeps X.prog X.w X.K X.mg X.base x k ps n m) (hr : Room k X.A) (tk : Takes X W') (hg : Gl X x)
    (ha : DA X (wish X.mg W') (e :: es) fs) (hfs : AL fs n) (hdb : (x == ("__debug__" : Str)) = false := by decide) (he : starEach (e :: es) X.env = (false, eval e X.env) :: starEach es X.env := by rfl) (hpl : (backTo pos (starEach es X.env)).any (·.1) = false := by rfl) :
    DV X (wish X.mg W') (.Call (.Name x p) (e :: es) [] pos) (eCall m fs) := by
  obtain ⟨f, fd, h1, h2, h3, h4⟩ := G
  exact dv_call h4 hr tk hg h1 h2 h3 ha hfs hdb he hpl
theorem df_callK (G : Keeps X.prog X.w X.K X.mg X.base x k ps n m) (hr : Room k X.A) (tk : Takes X W') (hg : Gl X x)
    (ha : DA X (wish X.mg W') (e :: es) fs) (hfs : AL fs n) (hdb : (x == ("__debug__" : Str)) = false := by decide) (he : starEach (e :: es) X.env = (false, eval e X.env) :: starEach es X.env := by rfl) (hpl : (backTo pos (starEach es X.env)).any (·.1) = false := by rfl) :
    DF X (wish X.mg W') (.Call (.Name x p) (e :: es) [] pos) (lCall m fs) := by
  obtain ⟨f, fd, h1, h2, h3, h4⟩ := G
  exact df_call h4 hr tk hg h1 h2 h3 ha hfs hdb he hpl
end
end DL
/-! DL10: zip of two and three, enumerate, over lists and tuples alike. -/
namespace DL
open PySem PySem.Spec PyProof.Rows L2

/-- a list (true) or a tuple (false) -/
def SqG (K : KF) (H : Hp) (b : Bool) (a : Addr) (xs : List V) : Prop := match b with
  | true => SqL K H a xs
  | false => SqT K H a xs
def IsG (h : Heap) (b : Bool) (a : Addr) (its : Array Value) : Prop := match b with
  | true => h.IsList a its
  | false => h.IsTuple a its
def ItG (h : Heap) (b : Bool) (it a : Addr) (i : Nat) : Prop := match b with
  | true => h.IsListIter it a i
  | false => h.IsTupleIter it a i
def obG (b : Bool) (a : Addr) : Obj := match b with
  | true => { cls := .type "list_iterator", data := .fields #[.ref a, .int 0 0] }
  | false => { cls := .type "tuple_iterator", data := .fields #[.ref a, .int 0 0] }
theorem begins_G (b : Bool) (a : Addr) (its : Array Value) : Begins (.ref a) (obG b a) fun h => IsG h b a its := match b with
  | true => begins_list a its
  | false => begins_tuple a its
theorem draws_G {prog : Program} {w : World} {A : Around} (hh : A.handled = none) (b : Bool) (it a : Addr) (hne : a ≠ it) (its : Array Value) :
    Draws prog w A it [it, a] its.size (fun i v => its[i]? = some v) (fun i h => ItG h b it a i ∧ IsG h b a its) := match b with
  | true => Draws.list hh it a hne its
  | false => Draws.tuple hh it a hne its
theorem ItG.obj {h : Heap} {b : Bool} {it a : Addr} {i : Nat} (x : ItG h b it a i) : ∃ o, h.get? it = some o ∧ ∀ v, o.data ≠ .cell v := by
  cases b with
  | true => obtain ⟨o, e, _, d⟩ := (show h.IsListIter it a i from x); exact ⟨o, e, fun v q => by rw [d] at q; cases q⟩
  | false => obtain ⟨o, e, _, d⟩ := (show h.IsTupleIter it a i from x); exact ⟨o, e, fun v q => by rw [d] at q; cases q⟩
theorem ItG.at {h h' : Heap} {b : Bool} {it a : Addr} {i : Nat} (x : ItG h b it a i) (k : ∀ o, h.get? it = some o → h'.get? it = some o) : ItG h' b it a i := by
  cases b with
  | true => exact Heap.IsListIter.at (show h.IsListIter it a i from x) k
  | false => exact Heap.IsTupleIter.at (show h.IsTupleIter it a i from x) k
theorem ItG.new {h : Heap} {b : Bool} {it a : Addr} (e : h.get? it = some (obG b a)) : ItG h b it a 0 := by
  cases b with
  | true => exact ⟨_, e, rfl, rfl⟩
  | false => exact ⟨_, e, rfl, rfl⟩
section
variable {X : Cx} {pins : List (Addr × Obj)} {σ : L2.St} {H : Hp} {s : Shared} {a : Addr} {b : Bool} {xs ys : List V}
theorem inv_G (I : Inv X pins σ H s) (h : SqG X.K H b a xs) : ∃ its : List Value, Vals xs its ∧ IsG s.heap b a its.toArray := by
  cases b with
  | true =>
    obtain ⟨its, r, p, _⟩ := I.list (show SqL X.K H a xs from h)
    exact ⟨its, r, p.isList⟩
  | false =>
    obtain ⟨its, r, p, _⟩ := I.tuple (show SqT X.K H a xs from h)
    exact ⟨its, r, p⟩
theorem inv_G_inj (I : Inv X pins σ H s) (h : SqG X.K H b a xs) (h' : SqG X.K H b a ys) : xs = ys := by
  cases b with
  | true => exact I.list_inj (show SqL X.K H a xs from h) h'
  | false => exact I.tuple_inj (show SqT X.K H a xs from h) h'
theorem IsG.lt {h : Heap} {its : Array Value} (x : IsG h b a its) : a < h.objs.size := by
  cases b with
  | true => obtain ⟨o, e, _⟩ := (show h.IsList a its from x); exact Heap.lt_size e
  | false => obtain ⟨o, e, _⟩ := (show h.IsTuple a its from x); exact Heap.lt_size e
theorem SqG.up {K : KF} {F H : Hp} (s : Same F H) (h : SqG K F b a xs) : SqG K H b a xs := by
  cases b with
  | true => exact s.seq (show SqL K F a xs from h)
  | false =>
    rcases (show SqT K F a xs from h) with (h | ⟨o, h⟩) | h
    · exact .inl (.inl (s _ _ h))
    · exact .inl (.inr ⟨o, s _ _ h⟩)
    · exact .inr h
end

/-! ### zip of two -/
def Itz2 (K : KF) (b1 : Bool) (a1 : Addr) (b2 : Bool) (a2 : Addr) : It :=
  ⟨fun i H => ∃ (xs ys : List V) (x y : V), SqG K H b1 a1 xs ∧ SqG K H b2 a2 ys ∧ xs[i]? = some x ∧ ys[i]? = some y,
    fun i H v H' => ∃ T x y, v = .ref T ∧ H T = none ∧ H' = upd H T (.tup [x, y]) ∧ (∀ xs, SqG K H b1 a1 xs → xs[i]? = some x) ∧ ∀ ys, SqG K H b2 a2 ys → ys[i]? = some y,
    fun i H => ∃ xs ys : List V, SqG K H b1 a1 xs ∧ SqG K H b2 a2 ys ∧ i ≤ xs.length ∧ i ≤ ys.length ∧ (i = xs.length ∨ i = ys.length)⟩
structure Far2 (z TI TO i1 i2 a1 a2 : Addr) : Prop where
  sep : ZipSep2 z TI TO i1 i2 [i1, a1] [i2, a2]
  a1i : a1 ≠ i1
  a2i : a2 ≠ i2
theorem lt_ne {a b : Nat} (h : a < b) : a ≠ b := Nat.ne_of_lt h
theorem gt_ne {a b : Nat} (h : b < a) : a ≠ b := Nat.ne_of_gt h
theorem out2 {x a b : Nat} (h1 : x ≠ a) (h2 : x ≠ b) : x ∉ [a, b] := fun h => by
  rcases List.mem_cons.mp h with h | h
  · exact h1 h
  · exact h2 (List.mem_singleton.mp h)
theorem far2 (n a1 a2 : Nat) (h1 : a1 < n) (h2 : a2 < n) : Far2 (n + 4) (n + 2) (n + 3) n (n + 1) a1 a2 :=
  ⟨⟨lt_ne (by omega), lt_ne (by omega), lt_ne (by omega), gt_ne (by omega), List.mem_cons_self, out2 (gt_ne (by omega)) (gt_ne (by omega)), out2 (gt_ne (by omega)) (gt_ne (by omega)), gt_ne (by omega), List.mem_cons_self,
    out2 (gt_ne (by omega)) (gt_ne (by omega)), out2 (gt_ne (by omega)) (gt_ne (by omega)), out2 (lt_ne (by omega)) (gt_ne (by omega)), out2 (gt_ne (by omega)) (gt_ne (by omega))⟩, lt_ne (by omega), lt_ne (by omega)⟩
theorem turn_zip2 {P : Program} {w : World} {K : KF} {elts : List Expr} {kk : Nat} {tpos : Pos} {b1 b2 : Bool} {a1 a2 z TI TO i1 i2 : Addr} (D : Far2 z TI TO i1 i2 a1 a2) :
    Turn P w K (.Tuple elts kk tpos) (Itz2 K b1 a1 b2 a2) [z, TI, TO, i1, i2] z (fun i h => IsZip h z TI TO .none ∧ IsTupOf2 h TI (.ref i1) (.ref i2) ∧ (∃ x y, IsTupOf2 h TO x y) ∧ ItG h b1 i1 a1 i ∧ ItG h b2 i2 a2 i) where
  mem := by simp
  obj := fun i h st c hc => by
    obtain ⟨hz, hTI, ⟨x, y, hTO⟩, h1, h2⟩ := st
    have e' : c = z ∨ c = TI ∨ c = TO ∨ c = i1 ∨ c = i2 := by simpa using hc
    rcases e' with rfl | rfl | rfl | rfl | rfl
    · exact ⟨_, hz, fun v q => nomatch q⟩
    · exact ⟨_, hTI, fun v q => nomatch q⟩
    · exact ⟨_, hTO, fun v q => nomatch q⟩
    · exact h1.obj
    · exact h2.obj
  keep := fun i h h' st k => by
    obtain ⟨hz, hTI, ⟨x, y, hTO⟩, h1, h2⟩ := st
    exact ⟨k z (by simp) _ hz, k TI (by simp) _ hTI, ⟨x, y, k TO (by simp) _ hTO⟩, h1.at fun o q => k i1 (by simp) o q, h2.at fun o q => k i2 (by simp) o q⟩
  item := by
    intro X hP hw hK hc i pins s σ H E I hf st hg
    subst hP hw hK
    obtain ⟨hz, hTI, ⟨x0, y0, hTO⟩, h1, h2⟩ := st
    obtain ⟨xs, ys, x, y, hqx, hqy, hx, hy⟩ := hg
    obtain ⟨its, rv, p⟩ := inv_G I hqx
    obtain ⟨its2, rv2, p2⟩ := inv_G I hqy
    have l1 := rv.length
    have l2 := rv2.length
    have lx := (List.getElem?_eq_some_iff.mp hx).1
    have ly := (List.getElem?_eq_some_iff.mp hy).1
    have hzl : z < s.heap.objs.size := Heap.lt_size hz
    have hh : X.A.in1.handled = none := by simpa using I.ok.hd hc
    refine wpAny_pyNext_zipD2_item D.sep (draws_G hh b1 i1 a1 D.a1i its.toArray) (draws_G hh b2 i2 a2 D.a2i its2.toArray) hz hTI hTO ⟨h1, p⟩ ⟨h2, p2⟩ (by simp; omega) (by simp; omega) fun u u2 h' tk hu hu2 z' TO' st1 st2 hT hsz hk => ?_
    refine ⟨_, rfl, wpAny_letOwnedTupleGo_zip (s := { s with heap := h', toks := tk }) z' fun h'' z'' sb => ?_⟩
    obtain ⟨w1, hw1, ru⟩ := rv.get hx
    obtain ⟨w2, hw2, ru2⟩ := rv2.get hy
    have e1 : u = w1 := by
      have q : its[i]? = some u := by simpa using hu
      rw [hw1] at q; exact (Option.some.inj q).symm
    have e2 : u2 = w2 := by
      have q : its2[i]? = some u2 := by simpa using hu2
      rw [hw2] at q; exact (Option.some.inj q).symm
    subst e1 e2
    have hT2 : h''.get? s.heap.objs.size = some { cls := .type "tuple", data := .seq #[u, u2] } := (sb.2 _ (Nat.ne_of_gt hzl)).trans hT
    have new : ObjOk X.prog X.w (upd H s.heap.objs.size (.tup [x, y])) h'' s.heap.objs.size (.tup [x, y]) :=
      ⟨by rw [sizeLine_eq]; show 2 ≤ 16777216; decide, [u, u2], .cons ru (.cons ru2 .nil), ⟨_, hT2, rfl, _, rfl⟩⟩
    have I1 : Inv X pins σ (upd H s.heap.objs.size (.tup [x, y])) { s with heap := h'', toks := tk } :=
      I.turnedNew (t' := tk) (ch := [z, TI, TO, i1, i2]) (fun c o hb q => (sb.2 c (fun q' => hb (by simp [q']))).trans (hk c o (fun q' => hb (by simp [q'])) (fun q' => hb (by simp [q'])) (fun q' => hb (by simp [q'])) (fun q' => hb (by simp [q'])) q)) hf (Nat.le_refl _) new
    refine ⟨.ref s.heap.objs.size, _, I1, rfl, ⟨_, x, y, rfl, I.hok.fresh (Nat.le_refl _), rfl, fun l hl => by rw [inv_G_inj I hl hqx]; exact hx, fun l hl => by rw [inv_G_inj I hl hqy]; exact hy⟩, ⟨z'', ?_, ⟨u, u2, ?_⟩, ?_, ?_⟩, fun c hcm => ?_⟩
    · exact (sb.2 _ D.sep.TIz).trans (hk _ _ D.sep.TIz D.sep.TITO D.sep.TIi1 D.sep.TIi2 hTI)
    · exact (sb.2 _ D.sep.TOz).trans TO'
    · exact st1.1.at fun o q => (sb.2 _ (Ne.symm D.sep.zi1)).trans q
    · exact st2.1.at fun o q => (sb.2 _ (Ne.symm D.sep.zi2)).trans q
    · have hlt : c < s.heap.objs.size := by
        have e' : c = z ∨ c = TI ∨ c = TO ∨ c = i1 ∨ c = i2 := by simpa using hcm
        rcases e' with rfl | rfl | rfl | rfl | rfl
        · exact hzl
        · exact Heap.lt_size hTI
        · exact Heap.lt_size hTO
        · obtain ⟨_, e1, _⟩ := h1.obj; exact Heap.lt_size e1
        · obtain ⟨_, e2, _⟩ := h2.obj; exact Heap.lt_size e2
      rw [upd_ne (Nat.ne_of_lt hlt)]
      exact (hf c hcm).1
  done := by
    intro X hP hw hK hc i pins s σ H E I hf st hg
    subst hP hw hK
    obtain ⟨hz, hTI, ⟨x0, y0, hTO⟩, h1, h2⟩ := st
    obtain ⟨xs, ys, hqx, hqy, le1, le2, hend⟩ := hg
    obtain ⟨its, rv, p⟩ := inv_G I hqx
    obtain ⟨its2, rv2, p2⟩ := inv_G I hqy
    have l1 := rv.length
    have l2 := rv2.length
    have hh : X.A.in1.handled = none := by simpa using I.ok.hd hc
    refine wpAny_pyNext_zipD2_end D.sep (draws_G hh b1 i1 a1 D.a1i its.toArray) (draws_G hh b2 i2 a2 D.a2i its2.toArray) hz hTI hTO ⟨h1, p⟩ ⟨h2, p2⟩ (by simp; omega) (by simp; omega) (by simp; omega) fun h' tk hk => ?_
    exact ⟨rfl, I.turnedL (t' := tk) (ch := [z, TI, TO, i1, i2]) (fun c o hb q =>
      hk c o (fun q' => hb (by simp [q'])) (fun q' => hb (by simp [q'])) (fun q' => hb (by simp [q'])) (fun q' => hb (by simp [q'])) q) hf⟩
  self := fun A i s Q E st h => wpAny_pyIter_zip st.1 h
theorem walk_zip2 {K : KF} {b1 b2 : Bool} {a1 a2 : Addr} {xs ys : List V} {n : Nat} (hn : n = min xs.length ys.length) : Walk (Itz2 K b1 a1 b2 a2) n (fun H => SqG K H b1 a1 xs ∧ SqG K H b2 a2 ys) (YPair (fun i => xs[i]?) (fun i => ys[i]?)) := by
  subst hn
  refine ⟨fun i _ hi q => ?_, fun _ q => ⟨xs, ys, q.1, q.2, by omega, by omega, by omega⟩, fun i H v H' _ q y => ?_⟩
  · have h1 : i < xs.length := by omega
    have h2 : i < ys.length := by omega
    exact ⟨xs, ys, xs[i], ys[i], q.1, q.2, by simp [h1], by simp [h2]⟩
  · obtain ⟨T, x, z, h1, h2, h3, h4, h5⟩ := y
    exact ⟨T, x, z, h1, h2, h3, h4 xs q.1, h5 ys q.2⟩
def iZ2 (K : KF) (ta : TA) : TI := fun σ H R => ta σ H fun vs H1 => ∃ b1 a1 b2 a2 xs ys, vs = [.ref a1, .ref a2] ∧ SqG K H1 b1 a1 xs ∧ SqG K H1 b2 a2 ys ∧ R (Itz2 K b1 a1 b2 a2) H1
theorem pi_zip2 {X : Cx} {e e2 : Expr} {ta : TA} {p pos tpos : Pos} {elts : List Expr} {kk : Nat} (hg : Gl X "zip") (hm : X.mg "zip" = none) (ha : PA X [e, e2] ta)
    (hs : starEach [e, e2] X.env = (false, eval e X.env) :: starEach [e2] X.env := by rfl) (hpl : (backTo pos (starEach [e2] X.env)).any (·.1) = false := by rfl) :
    PI X (.Tuple elts kk tpos) (.Call (.Name "zip" p) [e, e2] [] pos) (iZ2 X.K ta) := by
  refine ⟨fun pins s σ H R I h => ?_⟩
  refine Call_ (ld_blt I hg hm PyProof.Rows.boot_zip (PyProof.Rows.callWith_type1 (thn (ha.run pos pins s σ H _ I h) fun us s1 ⟨vs, H1, I1, r1, q1⟩ => ?_) hs hpl))
  obtain ⟨b1, a1, b2, a2, xs, ys, ex, hqx, hqy, q⟩ := q1
  subst ex
  cases r1 with
  | cons r rr =>
    cases rr with
    | cons r' rr =>
      cases rr
      cases r
      cases r'
      obtain ⟨its, rv, p1⟩ := inv_G I1 hqx
      obtain ⟨its2, rv2, p2⟩ := inv_G I1 hqy
      refine zip_begins2 (begins_G b1 a1 its.toArray) (begins_G b2 a2 its2.toArray) p1 p2 fun h' hz hTI hTO h1 h2 hsz hk => wpAny_pyIter_zip hz ?_
      have I2 : Inv X pins σ H1 { s1 with heap := h' } := I1.kept (t' := s1.toks) hk
      refine ⟨s1.heap.objs.size + 4, [s1.heap.objs.size + 4, s1.heap.objs.size + 2, s1.heap.objs.size + 3, s1.heap.objs.size, s1.heap.objs.size + 1], _, _, H1, rfl, I2, turn_zip2 (far2 s1.heap.objs.size a1 a2 p1.lt p2.lt), ⟨hz, hTI, ⟨_, _, hTO⟩, ItG.new h1, ItG.new h2⟩, fun c hcm => ?_, q⟩
      have e' : c = s1.heap.objs.size + 4 ∨ c = s1.heap.objs.size + 2 ∨ c = s1.heap.objs.size + 3 ∨ c = s1.heap.objs.size ∨ c = s1.heap.objs.size + 1 := by simpa using hcm
      have hle : s1.heap.objs.size ≤ c := by
        rcases e' with z | z | z | z | z
        · rw [z]; exact Nat.le_add_right _ _
        · rw [z]; exact Nat.le_add_right _ _
        · rw [z]; exact Nat.le_add_right _ _
        · rw [z]; exact Nat.le_refl _
        · rw [z]; exact Nat.le_add_right _ _
      exact I1.fpOk hle (I1.hok.fresh hle)

/-! ### over data -/
def oSeq : D → Option (Bool × List D)
  | .lst xs => some (true, xs)
  | .tup xs => some (false, xs)
  | .scr ns => some (true, ns.map .int)
  | _ => none
def zip2 : List D → List D → List D
  | x :: xs, y :: ys => .tup [x, y] :: zip2 xs ys
  | _, _ => []
def oZip2 (x y : D) : Option (List D) := (oSeq x).bind fun p => (oSeq y).map fun q => zip2 p.2 q.2
abbrev iZip2 (a b : Env → R D) : Env → R (List D) := fun ρ => (a ρ).bind fun x => (b ρ).bind fun y => R.of (oZip2 x y)
theorem rep_sq {K : KF} {F : Hp} {v : V} {d : D} {b : Bool} {xs : List D} (r : Rep K F v d) (e : oSeq d = some (b, xs)) : ∃ a vs, v = .ref a ∧ SqG K F b a vs ∧ RepL K F vs xs := by
  unfold oSeq at e
  split at e
  · cases e
    cases r with | lst f r => exact ⟨_, _, rfl, SqL.of f, r⟩
  · cases e
    cases r with | tup f r => exact ⟨_, _, rfl, f.sq, r⟩
  · cases e
    cases r with | scr f => exact ⟨_, _, rfl, f, RepL.ofInts _⟩
  · cases e
theorem zip2_len : ∀ (xs ys : List D), (zip2 xs ys).length = min xs.length ys.length
  | [], _ => by simp [zip2]
  | _ :: _, [] => by simp [zip2]
  | x :: xs, y :: ys => by simp [zip2, zip2_len xs ys]
theorem zip2_at : ∀ {xs ys : List D} {i : Nat} {x y : D}, xs[i]? = some x → ys[i]? = some y → (zip2 xs ys)[i]? = some (.tup [x, y])
  | [], _, _, _, _, h, _ => by simp at h
  | _ :: _, [], _, _, _, _, h => by simp at h
  | x :: xs, y :: ys, 0, _, _, h, h' => by simp at h h'; simp [zip2, h, h']
  | x :: xs, y :: ys, i + 1, _, _, h, h' => by
    simp only [List.getElem?_cons_succ] at h h'
    simp only [zip2, List.getElem?_cons_succ]
    exact zip2_at h h'
theorem itok_zip2 {K : KF} {F : Hp} {b1 b2 : Bool} {a1 a2 : Addr} {vs us : List V} {xs ys : List D} (h1 : SqG K F b1 a1 vs) (h2 : SqG K F b2 a2 us) (r1 : RepL K F vs xs) (r2 : RepL K F us ys) : ItOk K (Itz2 K b1 a1 b2 a2) F (zip2 xs ys) :=
  ⟨_, _, walk_zip2 (xs := vs) (ys := us) (by rw [zip2_len, r1.len, r2.len]), fun F' H s1 s2 => ⟨SqG.up s2 (SqG.up s1 h1), SqG.up s2 (SqG.up s1 h2)⟩, fun i F' H x H' s1 s2 hi y => by
    obtain ⟨T, x1, x2, rfl, hT, rfl, e1, e2⟩ := y
    obtain ⟨d1, f1, q1⟩ := r1.getV e1
    obtain ⟨d2, f2, q2⟩ := r2.getV e2
    have up : Same F' (upd F' T (.tup [x1, x2])) := Same.add (s2.out hT)
    exact ⟨.tup [d1, d2], _, zip2_at f1 f2, Grow.new s2 hT, .tup (.of upd_same) (.cons ((q1.mono s1).mono up) (.cons ((q2.mono s1).mono up) .nil))⟩⟩
section
variable {X : Cx} {W : Wish} {a b c : Expr} {fa fb fc : Env → R D} {pos p tpos : Pos} {elts : List Expr} {kk : Nat}
theorem di_zip2 (hg : Gl X "zip") (hm : X.mg "zip" = none) (ha : DV X W a fa) (hb : DV X W b fb) (h1 : starEach (a :: [b]) X.env = (false, eval a X.env) :: starEach [b] X.env := by rfl) (h2 : starEach (b :: []) X.env = (false, eval b X.env) :: starEach [] X.env := by rfl)
    (hpl : (backTo pos (starEach [b] X.env)).any (·.1) = false := by rfl) :
    DI X W (.Tuple elts kk tpos) (.Call (.Name "zip" p) [a, b] [] pos) (iZip2 fa fb) :=
  (pi_zip2 hg hm (pa_cons ha (pa_cons hb pa_nil h2) h1) h1 hpl).weak fun σ H Q ⟨F0, H0, ρ, F, z, h⟩ => post_bind z rI_early h fun F1 H1 v x z1 g1 r1 h => post_bind z1 rI_early h fun F2 H2 u y z2 g2 r2 h => by
    obtain ⟨items, e, hF⟩ := post_of h
    unfold oZip2 at e
    obtain ⟨⟨b1, xs⟩, e1, e2⟩ := Option.bind_eq_some_iff.mp e
    obtain ⟨⟨b2, ys⟩, e3, e4⟩ := Option.map_eq_some_iff.mp e2
    subst e4
    obtain ⟨a1, vs, rfl, s1, q1⟩ := rep_sq (Rep.mono (show Rep X.K F1 v x from r1) g2.ff) e1
    obtain ⟨a2, us, rfl, s2, q2⟩ := rep_sq (show Rep X.K F2 u y from r2) e3
    exact ⟨b1, a1, b2, a2, vs, us, rfl, SqG.up z2.sub s1, SqG.up z2.sub s2, hF _ _ _ (Grow.refl z2.sub) (itok_zip2 s1 s2 q1 q2)⟩
end
end DL
/-! DL11: enumerate over a list or a tuple. -/
namespace DL
open PySem PySem.Spec PyProof.Rows L2
def Ite2 (K : KF) (b : Bool) (a : Addr) : It :=
  ⟨fun i H => ∃ (xs : List V) (x : V), SqG K H b a xs ∧ xs[i]? = some x, fun i H v H' => ∃ T x, v = .ref T ∧ H T = none ∧ H' = upd H T (.tup [.int (i : Nat), x]) ∧ ∀ xs, SqG K H b a xs → xs[i]? = some x, fun i H => ∃ xs : List V, SqG K H b a xs ∧ i = xs.length⟩
theorem turn_enum2 {P : Program} {w : World} {K : KF} {elts : List Expr} {kk : Nat} {tpos : Pos} {b : Bool} {a e it : Addr} (hei : e ≠ it) (hea : e ≠ a) (hai : a ≠ it) :
    Turn P w K (.Tuple elts kk tpos) (Ite2 K b a) [e, it] e (fun i h => (∃ old, IsEnum h e it ((i : Nat) : Int) old) ∧ ItG h b it a i) where
  mem := by simp
  obj := fun i h st c hc => by
    obtain ⟨⟨old, he⟩, h1⟩ := st
    have e' : c = e ∨ c = it := by simpa using hc
    rcases e' with rfl | rfl
    · exact ⟨_, he, fun v q => nomatch q⟩
    · exact h1.obj
  keep := fun i h h' st k => let ⟨⟨old, he⟩, hi⟩ := st; ⟨⟨old, k e (by simp) _ he⟩, hi.at fun o q => k it (by simp) o q⟩
  item := by
    intro X hP hw hK hc i pins s σ H E I hf st hg
    subst hP hw hK
    obtain ⟨⟨old, he⟩, h1⟩ := st
    obtain ⟨xs, x, hq, hx⟩ := hg
    obtain ⟨its, rv, p⟩ := inv_G I hq
    have l1 := rv.length
    have lx := (List.getElem?_eq_some_iff.mp hx).1
    have hh : X.A.in1.handled = none := by simpa using I.ok.hd hc
    have hel : e < s.heap.objs.size := Heap.lt_size he
    have hil : it < s.heap.objs.size := by obtain ⟨_, q, _⟩ := h1.obj; exact Heap.lt_size q
    refine wpAny_pyNext_enum_itemD (draws_G hh b it a hai its.toArray) he ⟨h1, p⟩ (by simp; omega) hei (out2 hei hea) fun u h' tk hu ho st' hT hsz hk => ?_
    refine ⟨_, rfl, wpAny_letOwnedTupleGo_enum (s := { s with heap := h', toks := tk + 1 }) ho fun h'' he' sb => ?_⟩
    obtain ⟨w1, hw1, ru⟩ := rv.get hx
    have e1 : u = w1 := by
      have q : its[i]? = some u := by simpa using hu
      rw [hw1] at q; exact (Option.some.inj q).symm
    subst e1
    have hT2 : h''.get? s.heap.objs.size = some { cls := .type "tuple", data := .seq #[.int i tk, u] } := (sb.2 _ (Nat.ne_of_gt hel)).trans hT
    have new : ObjOk X.prog X.w (upd H s.heap.objs.size (.tup [.int (i : Nat), x])) h'' s.heap.objs.size (.tup [.int (i : Nat), x]) :=
      ⟨by rw [sizeLine_eq]; show 2 ≤ 16777216; decide, [.int i tk, u], .cons ⟨_, rfl⟩ (.cons ru .nil), ⟨_, hT2, rfl, _, rfl⟩⟩
    have I1 : Inv X pins σ (upd H s.heap.objs.size (.tup [.int (i : Nat), x])) { s with heap := h'', toks := tk + 1 } :=
      I.turnedNew (t' := tk + 1) (ch := [e, it]) (fun c o hb q => (sb.2 c (fun q' => hb (by simp [q']))).trans (hk c o (fun q' => hb (by simp [q'])) (fun q' => hb (by simp [q'])) q)) hf (Nat.le_refl _) new
    refine ⟨.ref s.heap.objs.size, _, I1, rfl, ⟨_, x, rfl, I.hok.fresh (Nat.le_refl _), rfl, fun l hl => by rw [inv_G_inj I hl hq]; exact hx⟩, ⟨⟨u, ?_⟩, st'.1.at fun o q => (sb.2 it (Ne.symm hei)).trans q⟩, fun c hcm => ?_⟩
    · have e1 : ((i + 1 : Nat) : Int) = (i : Int) + 1 := by omega
      rw [e1]; exact he'
    · have hlt : c < s.heap.objs.size := by
        have e' : c = e ∨ c = it := by simpa using hcm
        rcases e' with rfl | rfl
        · exact hel
        · exact hil
      rw [upd_ne (Nat.ne_of_lt hlt)]
      exact (hf c hcm).1
  done := by
    intro X hP hw hK hc i pins s σ H E I hf st hg
    subst hP hw hK
    obtain ⟨⟨old, he⟩, h1⟩ := st
    obtain ⟨xs, hq, hi⟩ := hg
    obtain ⟨its, rv, p⟩ := inv_G I hq
    have l1 := rv.length
    have hh : X.A.in1.handled = none := by simpa using I.ok.hd hc
    obtain ⟨f0, f1, f2, f3, f4, f5⟩ := hf it (by simp)
    have en : i = its.toArray.size := by simp; omega
    refine wpAny_pyNext_enum_endD (draws_G hh b it a hai its.toArray) he (by rw [← en]; exact ⟨h1, p⟩) fun h' eb => ⟨rfl, I.turned (t' := s.toks) (fun c o hb q => eb c o hb q) f0 f1 f3 f4 f5⟩
  self := fun A i s Q E st h => let ⟨⟨_, he⟩, _⟩ := st; wpAny_pyIter_enum he h
theorem walk_enum2 {K : KF} {b : Bool} {a : Addr} {xs : List V} : Walk (Ite2 K b a) xs.length (fun H => SqG K H b a xs) (YPair (fun i => some (.int (i : Nat))) (fun i => xs[i]?)) := by
  refine ⟨fun i _ hi q => ⟨xs, xs[i], q, by simp [hi]⟩, fun _ q => ⟨xs, q, rfl⟩, fun i H v H' _ q y => ?_⟩
  obtain ⟨T, x, h1, h2, h3, h4⟩ := y
  exact ⟨T, .int (i : Nat), x, h1, h2, h3, rfl, h4 xs q⟩
def iEn2 (K : KF) (ta : TA) : TI := fun σ H R => ta σ H fun vs H1 => ∃ b a xs, vs = [.ref a] ∧ SqG K H1 b a xs ∧ R (Ite2 K b a) H1
set_option maxHeartbeats 1000000 in
theorem makes_enum1 {it0 : Value} {cell : Obj} {Pre : Heap → Prop} (B : Begins it0 cell Pre) :
    Meets (Builtin.«enumerate.__new__» ⟨[.type "enumerate", it0], []⟩) fun _ R s =>
      Pre s.heap ∧ R (.ok (.ret (.ref (s.heap.push cell).objs.size)))
        { s with heap := (s.heap.push cell).push { cls := .type "enumerate", data := .fields #[.none, .bool false, .ref s.heap.objs.size, rawInt 0, .none, .none] } } :=
  .of_wp fun pr wo Ar R s hyp => by
    obtain ⟨h0, gg, dd, kk, oo⟩ := s
    obtain ⟨pre, hyp⟩ := hyp
    have subE := sub_enumerate
    have goIt : ∀ {A' : Around} {E Q : Value → Shared → Prop}, Q (.ref h0.objs.size) ⟨h0.push cell, gg, dd, kk, oo⟩ →
        wpAny (model pr wo) A' (pyIter it0) Q E ⟨h0, gg, dd, kk, oo⟩ :=
      fun q => B.iter pr wo _ _ ⟨h0, gg, dd, kk, oo⟩ _ pre q
    wp_walk using goIt
    refine wpAny_stack_any fun stk => wpAny_pure ?_
    split
    · rename_i cl _ _ _ _ _
      cases cl == Value.type "enumerate" <;> (wp_walk using goIt; exact ⟨_, rfl, hyp⟩)
    · wp_walk using goIt; exact ⟨_, rfl, hyp⟩
theorem enum_begins1 {prog : Program} {w : World} {A : Around} {E Q : Value → Shared → Prop} {s : Shared} {v : Value} {o : Obj} {Pre : Heap → Prop} (B : Begins v o Pre) (pre : Pre s.heap)
    (hQ : ∀ h', IsEnum h' (s.heap.objs.size + 1) s.heap.objs.size 0 .none → h'.get? s.heap.objs.size = some o →
      (∀ b o, s.heap.get? b = some o → h'.get? b = some o) → Q (.ref (s.heap.objs.size + 1)) { s with heap := h' }) :
    wpAny (model prog w) A (call (.type "enumerate") [v]) Q E s := by
  refine callType_new F.called_enumerate (by decide) (F.typeCall_enumerate_1 _)
    (F.newCall_enumerate_1 _) (fun ob => F.args_object_init_2 ob _) F.entry_enumerate_new (makes_enum1 B) ⟨pre, ?_⟩
  have sz : (s.heap.push o).objs.size = s.heap.objs.size + 1 := Heap.size_push ..
  show _ ∧ _
  rw [sz]
  generalize hE : ({ cls := .type "enumerate", data := .fields #[.none, .bool false, .ref s.heap.objs.size, rawInt 0, .none, .none] } : Obj) = eo
  have fr : eo.cls = .type "enumerate" := by subst hE; rfl
  have g1 : ((s.heap.push o).push eo).get? (s.heap.objs.size + 1) = some eo := by
    have q := Heap.get?_push_size (s.heap.push o) (o := eo) (by subst hE; rfl)
    rwa [sz] at q
  exact ⟨⟨eo, g1, fr⟩, hQ _ (by subst hE; exact g1) (Heap.get?_push_of_some _ (Heap.get?_push_size _ B.free)) fun b ob x =>
    Heap.get?_push_of_some _ (Heap.get?_push_of_some _ x)⟩
theorem far1 {n a : Nat} (h : a < n) : n + 1 ≠ a := by omega
theorem pi_enum2 {X : Cx} {e : Expr} {ta : TA} {p pos tpos : Pos} {elts : List Expr} {kk : Nat} (hg : Gl X "enumerate") (hm : X.mg "enumerate" = none) (ha : PA X [e] ta)
    (hs : starEach [e] X.env = (false, eval e X.env) :: starEach [] X.env := by rfl) (hpl : (backTo pos (starEach [] X.env)).any (·.1) = false := by rfl) :
    PI X (.Tuple elts kk tpos) (.Call (.Name "enumerate" p) [e] [] pos) (iEn2 X.K ta) := by
  refine ⟨fun pins s σ H R I h => ?_⟩
  refine Call_ (ld_blt I hg hm PyProof.Rows.boot_enumerate (PyProof.Rows.callWith_type1 (thn (ha.run pos pins s σ H _ I h) fun us s1 ⟨vs, H1, I1, r1, q1⟩ => ?_) hs hpl))
  obtain ⟨b, a, xs, ex, hq, q⟩ := q1
  subst ex
  cases r1 with
  | cons r rr =>
    cases rr
    cases r
    obtain ⟨its, rv, p1⟩ := inv_G I1 hq
    refine enum_begins1 (begins_G b a its.toArray) p1 fun h' he hi hk => wpAny_pyIter_enum he ?_
    have I2 : Inv X pins σ H1 { s1 with heap := h' } := I1.kept (t' := s1.toks) hk
    refine ⟨s1.heap.objs.size + 1, [s1.heap.objs.size + 1, s1.heap.objs.size], _, _, H1, rfl, I2, turn_enum2 (gt_ne (by omega)) (far1 p1.lt) (lt_ne p1.lt), ⟨⟨_, he⟩, ItG.new hi⟩, fun c hcm => ?_, q⟩
    have e' : c = s1.heap.objs.size + 1 ∨ c = s1.heap.objs.size := by simpa using hcm
    have hle : s1.heap.objs.size ≤ c := by
      rcases e' with z | z
      · rw [z]; exact Nat.le_add_right _ _
      · rw [z]; exact Nat.le_refl _
    exact I1.fpOk hle (I1.hok.fresh hle)

/-! ### over data -/
def enumD : Nat → List D → List D
  | _, [] => []
  | k, x :: xs => .tup [.int k, x] :: enumD (k + 1) xs
def oEnum (x : D) : Option (List D) := (oSeq x).map fun p => enumD 0 p.2
abbrev iEnm (a : Env → R D) : Env → R (List D) := fun ρ => (a ρ).bind fun x => R.of (oEnum x)
theorem enumD_len : ∀ (k : Nat) (xs : List D), (enumD k xs).length = xs.length
  | _, [] => rfl
  | k, x :: xs => by simp [enumD, enumD_len (k + 1) xs]
theorem enumD_at : ∀ {k : Nat} {xs : List D} {i : Nat} {x : D}, xs[i]? = some x → (enumD k xs)[i]? = some (.tup [.int ((k + i : Nat) : Int), x])
  | _, [], _, _, h => by simp at h
  | k, x :: xs, 0, _, h => by simp at h; simp [enumD, h]
  | k, x :: xs, i + 1, _, h => by
    simp only [List.getElem?_cons_succ] at h
    simp only [enumD, List.getElem?_cons_succ]
    rw [enumD_at h]
    simp only [Nat.add_assoc, Nat.add_comm 1 i]
theorem itok_enum2 {K : KF} {F : Hp} {b : Bool} {a : Addr} {vs : List V} {xs : List D} (h1 : SqG K F b a vs) (r1 : RepL K F vs xs) : ItOk K (Ite2 K b a) F (enumD 0 xs) :=
  ⟨_, _, by rw [enumD_len, ← r1.len]; exact walk_enum2 (xs := vs), fun F' H s1 s2 => SqG.up s2 (SqG.up s1 h1), fun i F' H x H' s1 s2 hi y => by
    obtain ⟨T, y1, x1, rfl, hT, rfl, e0, e1⟩ := y
    cases e0
    obtain ⟨d1, f1, q1⟩ := r1.getV e1
    have up : Same F' (upd F' T (.tup [.int (i : Nat), x1])) := Same.add (s2.out hT)
    have f2 : (enumD 0 xs)[i]? = some (.tup [.int ((i : Nat) : Int), d1]) := by have := enumD_at (k := 0) f1; simpa using this
    exact ⟨.tup [.int ((i : Nat) : Int), d1], _, f2, Grow.new s2 hT, .tup (.of upd_same) (.cons (.int _) (.cons ((q1.mono s1).mono up) .nil))⟩⟩
section
variable {X : Cx} {W : Wish} {a : Expr} {fa : Env → R D} {pos p tpos : Pos} {elts : List Expr} {kk : Nat}
theorem di_enum (hg : Gl X "enumerate") (hm : X.mg "enumerate" = none) (ha : DV X W a fa) (h1 : starEach (a :: []) X.env = (false, eval a X.env) :: starEach [] X.env := by rfl)
    (hpl : (backTo pos (starEach [] X.env)).any (·.1) = false := by rfl) :
    DI X W (.Tuple elts kk tpos) (.Call (.Name "enumerate" p) [a] [] pos) (iEnm fa) :=
  (pi_enum2 hg hm (pa_cons ha pa_nil h1) h1 hpl).weak fun σ H Q ⟨F0, H0, ρ, F, z, h⟩ => post_bind z rI_early h fun F1 H1 v x z1 g1 r1 h => by
    obtain ⟨items, e, hF⟩ := post_of h
    unfold oEnum at e
    obtain ⟨⟨b1, xs⟩, e1, e4⟩ := Option.map_eq_some_iff.mp e
    subst e4
    obtain ⟨a1, vs, rfl, s1, q1⟩ := rep_sq (show Rep X.K F1 v x from r1) e1
    exact ⟨b1, a1, vs, rfl, SqG.up z1.sub s1, hF _ _ _ (Grow.refl z1.sub) (itok_enum2 s1 q1)⟩
end
end DL
/-! DL12: comprehensions of any number of clauses. -/
namespace DL
open PySem PySem.Spec PyProof.Rows L2

/-- one clause's walk: each item is stored, tested, and what stands inside is told for it -/
def lcN (gt : D → Env → Option Env) (tt : Env → R Bool) (fin : Env → Option (List D)) (ρ : Env) : List D → Option (List D)
  | [] => some []
  | d :: ds => (gt d ρ).bind fun ρ1 => (calm (tt ρ1)).bind fun k => (if k = true then fin ρ1 else some []).bind fun ys => (lcN gt tt fin ρ ds).map fun zs => ys ++ zs
/-- the list that grows, in no one's slot -/
structure Acc (K : KF) (Fb Hb F0 H0 : Hp) (ρ : Env) (σ : L2.St) (F H : Hp) (Dd : Addr) (dn : List D) : Prop where
  sl : SL K F0 H0 ρ σ F H
  gb : Grow Fb Hb F H
  hb : Hb Dd = none
  f : F Dd = none
  h0 : H0 Dd = none
  ap : ∀ (i : Nat) (s : S), ρ[i]? = some (some s) → s.own = true → σ[i]? ≠ some (some (V.ref Dd))
  own : ∃ acc, H Dd = some (.lst acc) ∧ RepL K F acc dn
section
variable {K : KF} {Fb Hb F0 H0 F H F' H' : Hp} {ρ ρ' : Env} {σ σ' : L2.St} {Dd : Addr} {dn : List D}
theorem Acc.up (a : Acc K Fb Hb F0 H0 ρ σ F H Dd dn) (g : Grow F H F' H') : Acc K Fb Hb F0 H0 ρ σ F' H' Dd dn := by
  obtain ⟨acc, h1, r⟩ := a.own
  exact ⟨a.sl.up g, a.gb.trans g, a.hb, g.nn Dd (by rw [h1]; simp) a.f, a.h0, a.ap, acc, g.hh _ _ h1, r.mono g.ff⟩
theorem Acc.wipe (a : Acc K Fb Hb F0 H0 ρ σ F H Dd dn) (vs : List Nat) : Acc K Fb Hb F0 H0 (wipeE ρ vs) (L2.wipe σ vs) F H Dd dn := by
  refine ⟨a.sl.wipe vs, a.gb, a.hb, a.f, a.h0, fun i s e o q => ?_, a.own⟩
  rw [wipeE_at] at e
  rw [wipe_at] at q
  split at e
  · cases h : ρ[i]? <;> rw [h] at e <;> cases e
  · rename_i hn
    rw [if_neg hn] at q
    exact a.ap i s e o q
/-- slots that are stored into by data keep away from the list -/
theorem Acc.slots (a : Acc K Fb Hb F0 H0 ρ σ F H Dd dn) (g : Grow F H F' H') (z : SL K F0 H0 ρ' σ' F' H') (nw : ∀ (i : Nat) (s : S), ρ'[i]? = some (some s) → s.own = true → ρ[i]? = some (some s) ∧ σ'[i]? = σ[i]?) : Acc K Fb Hb F0 H0 ρ' σ' F' H' Dd dn := by
  obtain ⟨acc, h1, r⟩ := a.own
  refine ⟨z, a.gb.trans g, a.hb, g.nn Dd (by rw [h1]; simp) a.f, a.h0, fun i s e o q => ?_, acc, g.hh _ _ h1, r.mono g.ff⟩
  obtain ⟨e1, e2⟩ := nw i s e o
  rw [e2] at q
  exact a.ap i s e1 o q
theorem Acc.add {v : V} {d : D} (a : Acc K Fb Hb F0 H0 ρ σ F H Dd dn) {acc : List V} (h1 : H Dd = some (.lst acc)) (r : RepL K F acc dn) (rv : Rep K F v d) : Acc K Fb Hb F0 H0 ρ σ F (upd H Dd (.lst (acc ++ [v]))) Dd (dn ++ [d]) :=
  ⟨a.sl.poke a.f a.h0 a.ap, a.gb.poke a.f a.hb, a.hb, a.f, a.h0, a.ap, acc ++ [v], upd_same, r.app (.cons rv .nil)⟩
end
/-- what stands inside a clause -/
def Inner (Y : Cx) (Dd : Addr) (t : Sem Unit) (js : List Nat) (f : Env → Option (List D)) : Prop :=
  ∀ (pins : List (Addr × Obj)) (s : Shared) (σ : L2.St) (H Fb Hb F0 H0 : Hp) (ρ : Env) (F : Hp) (dn out : List D), Inv Y pins σ H s → Acc Y.K Fb Hb F0 H0 ρ σ F H Dd dn → f ρ = some out → dn.length + out.length ≤ 16777216 →
    wpAny (model Y.prog Y.w) Y.A t (fun _ s' => ∃ F' H', Inv Y pins (L2.wipe σ js) H' s' ∧ Same F F' ∧ Acc Y.K Fb Hb F0 H0 (wipeE ρ js) (L2.wipe σ js) F' H' Dd (dn ++ out)) (fun _ _ => False) s
/-- a clause's loop, from its iterator's begin -/
def Lvl (Y : Cx) (LC : Expr) (k : Nat) (tg : Expr) (Dd : Addr) (js : List Nat) (f : Env → List D → Option (List D)) : Prop :=
  ∀ (items : List D) (J : It) (it : Addr) (fp : List Addr) (tn : Nat → Heap → Prop) (pins : List (Addr × Obj)) (s : Shared) (σ : L2.St) (H Fb Hb F0 H0 : Hp) (ρ : Env) (F : Hp) (dn out : List D) (Z : Result → Shared → Prop),
    Turn Y.prog Y.w Y.K tg J fp it tn → ItOk Y.K J F items → Inv Y pins σ H s → tn 0 s.heap → (∀ b ∈ fp, FpOk Y pins H b) → Acc Y.K Fb Hb F0 H0 ρ σ F H Dd dn → f (wipeE ρ js) items = some out → dn.length + out.length ≤ 16777216 →
    (∀ F' H' s', Inv Y pins (L2.wipe σ js) H' s' → Same F F' → Acc Y.K Fb Hb F0 H0 (wipeE ρ js) (L2.wipe σ js) F' H' Dd (dn ++ out) → Z (.ok .next) s') →
    codeAny (model Y.prog Y.w) Y.A (.compLoop LC k (.ref it) (.ref Dd) Y.env) Z s
/-- how a turn of clause k reads -/
def Reads (LC : Expr) (k : Nat) (tg : Expr) (ip : Pos) (ifs : List Expr) (Dd : Addr) (env : PySem.Env) (rest : Sem Unit) : Prop :=
  ∀ it : Value, compTurn LC k it (.ref Dd) env = (do
    standAt ip
    match ← pyNext it with
    | none => pure (.done .next)
    | some v =>
      letOwnedTupleGo tg it v
      assign tg env v
      let mut ok := true
      for c in ifs do
        if ok then ok ← isTrue c env (eval c env)
      if ok then
        rest
      again (.compLoop LC k it (.ref Dd) env))
theorem wipe_mem {σ : L2.St} {vs : List Nat} {j : Nat} {v : V} (h : (L2.wipe σ vs)[j]? = some (some v)) : j ∉ vs ∧ σ[j]? = some (some v) := by
  rw [wipe_at] at h
  split at h
  · cases q : σ[j]? <;> rw [q] at h <;> cases h
  · rename_i hn; exact ⟨hn, h⟩
theorem wipeE_mem {ρ : Env} {vs : List Nat} {j : Nat} {s : S} (h : (wipeE ρ vs)[j]? = some (some s)) : j ∉ vs ∧ ρ[j]? = some (some s) := by
  rw [wipeE_at] at h
  split at h
  · cases q : ρ[j]? <;> rw [q] at h <;> cases h
  · rename_i hn; exact ⟨hn, h⟩
/-- targets store data alone -/
def OnlyD (is : List Nat) (gt : D → Env → Option Env) : Prop := ∀ (d : D) (ρ ρ' : Env), gt d ρ = some ρ' → ρ'.length = ρ.length ∧ (∀ j, j ∉ is → ρ'[j]? = ρ[j]?) ∧ ∀ j ∈ is, ∀ s : S, ρ'[j]? = some (some s) → s.own = false ∨ ρ[j]? = some (some s)
theorem onlyD_name (i : Nat) : OnlyD [i] (setD i) := fun d ρ ρ' e => by
  cases e
  refine ⟨List.length_set, fun j hj => List.getElem?_set_ne (fun e => hj (by simp [e])), fun j hj s e => ?_⟩
  have hj : j = i := by simpa using hj
  subst hj
  by_cases hl : j < ρ.length
  · rw [List.getElem?_set_self hl] at e
    cases e
    exact .inl rfl
  · rw [List.getElem?_eq_none (by simp; omega)] at e
    cases e
def OnlyDs (is : List Nat) (gt : List D → Env → Option Env) : Prop := ∀ (d : List D) (ρ ρ' : Env), gt d ρ = some ρ' → ρ'.length = ρ.length ∧ (∀ j, j ∉ is → ρ'[j]? = ρ[j]?) ∧ ∀ j ∈ is, ∀ s : S, ρ'[j]? = some (some s) → s.own = false ∨ ρ[j]? = some (some s)
theorem onlyDs_nil : OnlyDs [] gsNil := fun d ρ ρ' e => by
  cases d with
  | nil => cases e; exact ⟨rfl, fun _ _ => rfl, fun j h => absurd h (by simp)⟩
  | cons _ _ => cases e
theorem onlyDs_cons {is js : List Nat} {g : D → Env → Option Env} {gs : List D → Env → Option Env} (h1 : OnlyD is g) (h2 : OnlyDs js gs) : OnlyDs (is ++ js) (gsCons g gs) := fun ds ρ ρ' e => by
  cases ds with
  | nil => cases e
  | cons d r =>
    obtain ⟨ρ1, e1, e2⟩ := Option.bind_eq_some_iff.mp e
    obtain ⟨a1, a2, a3⟩ := h1 d ρ ρ1 e1
    obtain ⟨b1, b2, b3⟩ := h2 r ρ1 ρ' e2
    have two : ∀ (j : Nat) (s : S), ρ1[j]? = some (some s) → s.own = false ∨ ρ[j]? = some (some s) := fun j s q => by
      by_cases hj : j ∈ is
      · exact a3 j hj s q
      · rw [a2 j hj] at q; exact .inr q
    refine ⟨b1.trans a1, fun j hj => (b2 j fun h => hj (List.mem_append_right _ h)).trans (a2 j fun h => hj (List.mem_append_left _ h)), fun j hj s e => ?_⟩
    by_cases hj : j ∈ js
    · rcases b3 j hj s e with o | q
      · exact .inl o
      · exact two j s q
    · rw [b2 j hj] at e
      exact two j s e
theorem onlyD_tup {is : List Nat} {n : Nat} {gs : List D → Env → Option Env} (h : OnlyDs is gs) : OnlyD is (gT n gs) := fun d ρ ρ' e => by
  cases d with
  | tup xs =>
    have e : (if xs.length = n then gs xs ρ else none) = some ρ' := e
    split at e
    · exact h xs ρ ρ' e
    · cases e
  | lst xs =>
    have e : (if xs.length = n then gs xs ρ else none) = some ρ' := e
    split at e
    · exact h xs ρ ρ' e
    · cases e
  | _ => cases e
section
variable {Y : Cx} {W : Wish} {elt tg iter : Expr} {gens : List Comprehension} {scope : Scope} {pos : Pos} {ifs : List Expr} {k : Nat} {Dd : Addr} {rest : Sem Unit} {is js : List Nat} {gt : D → Env → Option Env} {tt : Env → R Bool} {fin : Env → Option (List D)}
theorem lvl_of {ip : Pos} (hc : Y.calm = true) (hx : ∀ e s, ¬ Y.xe e s) (hg : DG Y tg is gt) (od : OnlyD is gt) (ht : DTs Y W ifs tt) (hin : Inner Y Dd rest js fin) (rd : Reads (.ListComp elt gens scope pos) k tg ip ifs Dd Y.env rest) : Lvl Y (.ListComp elt gens scope pos) k tg Dd (is ++ js) (lcN gt tt fin) := by
  intro items J it fp tn pins s σ H Fb Hb F0 H0 ρ F dn out Z T hJ I st ff A e few hZ
  obtain ⟨G, Yd, w, hG, hY⟩ := hJ
  have far : ∀ {H' : Hp}, (∀ b ∈ fp, H' b = none) → ∀ b ∈ fp, FpOk Y pins H' b := fun hn b hb => ⟨hn b hb, (ff b hb).2⟩
  have qt : (Code.compLoop (.ListComp elt gens scope pos) k (.ref it) (.ref Dd) Y.env).quiet = true := rfl
  refine codeAny_loop qt (fun m s' => ∃ i F' H' dn' tail, m = items.length - i ∧ i ≤ items.length ∧ Inv Y pins (L2.wipe σ (is ++ js)) H' s' ∧ tn i s'.heap ∧ (∀ b ∈ fp, H' b = none) ∧ Same F F' ∧
    Acc Y.K Fb Hb F0 H0 (wipeE ρ (is ++ js)) (L2.wipe σ (is ++ js)) F' H' Dd dn' ∧ lcN gt tt fin (wipeE ρ (is ++ js)) (items.drop i) = some tail ∧ dn' ++ tail = dn ++ out) ?_ items.length
    ⟨0, F, H, dn, out, rfl, Nat.zero_le _, I.weak (wipe_length _ _) (fun j v e => (wipe_mem e).2), st, fun b hb => (ff b hb).1, Same.refl _, A.wipe _, e, rfl⟩
  rintro m s5 ⟨i, F5, H5, dn5, tail5, rfl, hi, I5, st5, n5, sm5, A5, e5, eq5⟩
  show wpAny _ Y.A ((compTurn (.ListComp elt gens scope pos) k (.ref it) (.ref Dd) Y.env).onRaise (fun x => do noteFrame x Y.env; theTreesLotGoes x)) _ _ s5
  refine wpAny_noted ?_
  rw [rd]
  have no : ∀ {E : Value → Shared → Prop} (e : Value) (s : Shared), Y.xe e s → E e s := fun e s z => (hx e s z).elim
  by_cases hlt : i < items.length
  case neg =>
    have ei : i = items.length := by omega
    subst ei
    rw [List.drop_length] at e5
    cases e5
    rw [List.append_nil] at eq5
    subst eq5
    refine wpAny_bind (wpAny_standAt (wpAny_bind (wpAny_mono (T.done Y rfl rfl rfl hc items.length pins s5 _ H5 _ I5 (far n5) st5 (w.stops H5 (hG F5 H5 sm5 A5.sl.sub))) (fun r s6 h => ?_) fun _ _ h => h)))
    obtain ⟨rfl, I6⟩ := h
    exact wpAny_pure (hZ F5 H5 s6 I6 sm5 A5)
  case pos =>
    refine wpAny_bind (wpAny_standAt (wpAny_bind (wpAny_mono (T.item Y rfl rfl rfl hc i pins s5 _ H5 _ I5 (far n5) st5 (w.goes i H5 hlt (hG F5 H5 sm5 A5.sl.sub))) (fun r s6 h => ?_) fun _ _ h => h)))
    obtain ⟨u, rfl, h⟩ := h
    refine wpAny_bind (wpAny_mono h (fun _ s7 h7 => ?_) fun _ _ h => h)
    obtain ⟨x, H7, I7, r7, y7, st7, n7⟩ := h7
    obtain ⟨d, F7, ed, g7, rp7⟩ := hY i F5 H5 x H7 sm5 A5.sl.sub hlt (w.yields i H5 x H7 hlt (hG F5 H5 sm5 A5.sl.sub) y7)
    have edr : items.drop i = d :: items.drop (i + 1) := by
      rw [List.drop_eq_getElem_cons hlt]
      rw [List.getElem?_eq_getElem hlt] at ed
      cases ed; rfl
    rw [edr] at e5
    obtain ⟨ρ1, e1, e2⟩ := Option.bind_eq_some_iff.mp e5
    obtain ⟨b, e3, e4⟩ := Option.bind_eq_some_iff.mp e2
    obtain ⟨ys, e6, e7⟩ := Option.bind_eq_some_iff.mp e4
    obtain ⟨zs, e8, e9⟩ := Option.map_eq_some_iff.mp e7
    have e3 := calm_some e3
    have A7 := A5.up g7
    have J7 := I7.pinned (far n7) (T.obj _ _ st7)
    refine wpAny_bind (wpAny_mono (hg.run _ s7 _ H7 x u (fun σ8 H8 => ∃ F8, Grow F7 H7 F8 H8 ∧ SL Y.K F0 H0 ρ1 σ8 F8 H8 ∧ Else is (L2.wipe σ (is ++ js)) σ8) J7 r7
      ⟨F0, H0, _, F7, d, ρ1, A7.sl, rp7, e1, fun σ8 F8 H8 g8 z8 el => ⟨F8, g8, z8, el⟩⟩) (fun _ s8 h8 => ?_) no)
    obtain ⟨σ8, H8, I8, F8, g8, z8, el⟩ := h8
    obtain ⟨o1, o2, o3⟩ := od d _ ρ1 e1
    have A8 : Acc Y.K Fb Hb F0 H0 ρ1 σ8 F8 H8 Dd dn5 := A7.slots g8 z8 fun j sl e o => by
      by_cases hj : j ∈ is
      · rcases o3 j hj sl e with q | q
        · rw [q] at o; cases o
        · exact absurd hj fun h => (wipeE_mem q).1 (List.mem_append_left _ h)
      · exact ⟨by rw [← o2 j hj]; exact e, el.2 j hj⟩
    refine wpAny_bind (wpAny_mono (ht.run _ s8 σ8 H8 (fun q H9 => q = b ∧ ∃ F9, Grow F8 H8 F9 H9) I8 ⟨F0, H0, ρ1, F8, z8, by
      rw [e3]; exact fun q F9 H9 g9 hq => ⟨hq, F9, g9⟩⟩) (fun q s9 h9 => ?_) no)
    obtain ⟨H9, I9, rfl, F9, g9⟩ := h9
    have A9 := A8.up g9
    -- the turn's end
    have fine : ∀ {s' : Shared} {H' F' : Hp} {vs : List Nat} {dn' : List D}, (∀ j ∈ vs, j ∈ js) → Inv Y (pins ++ pinsAt fp s7.heap) (L2.wipe σ8 vs) H' s' → Same F9 F' → Acc Y.K Fb Hb F0 H0 (wipeE ρ1 vs) (L2.wipe σ8 vs) F' H' Dd dn' → dn' ++ zs = dn ++ out →
        ∃ m, m < items.length - i ∧ ∃ i' F' H' dn' tail, m = items.length - i' ∧ i' ≤ items.length ∧ Inv Y pins (L2.wipe σ (is ++ js)) H' s' ∧ tn i' s'.heap ∧ (∀ b ∈ fp, H' b = none) ∧ Same F F' ∧
          Acc Y.K Fb Hb F0 H0 (wipeE ρ (is ++ js)) (L2.wipe σ (is ++ js)) F' H' Dd dn' ∧ lcN gt tt fin (wipeE ρ (is ++ js)) (items.drop i') = some tail ∧ dn' ++ tail = dn ++ out := by
      intro s' H' F' vs dn' hv I' sm A' eq'
      have pin' : ∀ b ∈ fp, ∀ o, s7.heap.get? b = some o → s'.heap.get? b = some o ∧ H' b = none := fun b hb o e =>
        ⟨(I'.pin (b, o) (List.mem_append_right _ (List.mem_append_right _ (mem_pinsAt hb e)))).1, (I'.pin (b, o) (List.mem_append_right _ (List.mem_append_right _ (mem_pinsAt hb e)))).2.1⟩
      have lσ : (L2.wipe σ (is ++ js)).length = (L2.wipe σ8 vs).length := by rw [wipe_length σ8 vs, ← el.1]
      have kσ : ∀ (j : Nat) v, (L2.wipe σ (is ++ js))[j]? = some (some v) → (L2.wipe σ8 vs)[j]? = some (some v) := fun j v q => by
        have q2 := wipe_mem q
        rw [wipe_at, if_neg fun h => q2.1 (List.mem_append_right _ (hv j h)), el.2 j fun h => q2.1 (List.mem_append_left _ h)]
        exact q
      refine ⟨items.length - (i + 1), by omega, i + 1, F', H', dn', zs, rfl, hlt, (I'.unpinned).weak lσ kσ, T.keep _ _ _ st7 fun b hb o e => (pin' b hb o e).1, fun b hb => ?_, ((((sm5.trans g7.ff).trans g8.ff).trans g9.ff).trans sm), ?_, e8, eq'⟩
      · obtain ⟨o, e, _⟩ := T.obj _ _ st7 b hb
        exact (pin' b hb o e).2
      · have back : ∀ {j : Nat} {sl : S}, (wipeE ρ (is ++ js))[j]? = some (some sl) → (wipeE ρ1 vs)[j]? = some (some sl) ∧ (L2.wipe σ8 vs)[j]? = (L2.wipe σ (is ++ js))[j]? := fun {j sl} q => by
          have q2 := wipeE_mem q
          have n1 : j ∉ is := fun h => q2.1 (List.mem_append_left _ h)
          have n2 : j ∉ vs := fun h => q2.1 (List.mem_append_right _ (hv j h))
          refine ⟨?_, ?_⟩
          · rw [wipeE_at, if_neg n2, o2 j n1]; exact q
          · rw [wipe_at, if_neg n2, el.2 j n1]
        refine ⟨⟨A'.sl.grow, by rw [lσ, A'.sl.len, wipeE_length, wipeE_length, o1, wipeE_length], fun j sl q => ?_, fun j k2 sl tl a hjk q1 q2 w1 w2 f1 f2 => ?_⟩, A'.gb, A'.hb, A'.f, A'.h0, fun j sl q w1 f1 => ?_, A'.own⟩
        · obtain ⟨b1, b2⟩ := back q
          rw [← b2]
          exact A'.sl.slot j sl b1
        · obtain ⟨b1, b2⟩ := back q1
          obtain ⟨c1, c2⟩ := back q2
          rw [← b2] at f1
          rw [← c2] at f2
          exact A'.sl.apart j k2 sl tl a hjk b1 c1 w1 w2 f1 f2
        · obtain ⟨b1, b2⟩ := back q
          rw [← b2] at f1
          exact A'.ap j sl b1 w1 f1
    cases q with
    | false =>
      cases e6
      exact wpAny_pure ⟨rfl, fine (vs := []) (fun j h => absurd h (by simp)) I9 (Same.refl _) A9 (by rw [← eq5, ← e9]; rfl)⟩
    | true =>
      have e6 : fin ρ1 = some ys := e6
      have len : dn5.length + ys.length ≤ 16777216 := by
        have := congrArg List.length eq5
        rw [← e9, List.length_append, List.length_append, List.length_append] at this
        omega
      exact wpAny_bind (wpAny_mono (hin _ s9 σ8 H9 Fb Hb F0 H0 ρ1 F9 dn5 ys I9 A9 e6 len) (fun _ s10 ⟨F10, H10, I10, sm10, A10⟩ => wpAny_pure ⟨rfl, fine (fun j h => h) I10 sm10 A10 (by rw [← eq5, ← e9, List.append_assoc])⟩) fun _ _ z => z.elim)

/-- the last clause: the element is told and appended -/
theorem inner_elt {fe : Env → R D} (hx : ∀ e s, ¬ Y.xe e s) (he : DV Y W elt fe) : Inner Y Dd (do let _ ← call (.builtin "list.append") [.ref Dd, ← eval elt Y.env]) [] (fun ρ => (calm (fe ρ)).map fun d => [d]) := by
  intro pins s σ H Fb Hb F0 H0 ρ F dn out I A e few
  obtain ⟨d, e1, e2⟩ := Option.map_eq_some_iff.mp e
  subst e2
  have e1 := calm_some e1
  refine wpAny_bind (wpAny_mono (he.run pins s σ H (fun v H1 => ∃ F1, Grow F H F1 H1 ∧ Rep Y.K F1 v d) I ⟨F0, H0, ρ, F, A.sl, by rw [e1]; exact fun v F1 H1 g r => ⟨F1, g, r⟩⟩) (fun z s1 h => ?_) fun e s z => (hx e s z).elim)
  obtain ⟨v, H1, I1, r1, F1, g1, rp⟩ := h
  have A1 := A.up g1
  obtain ⟨acc, h1, ra⟩ := A1.own
  exact wpAny_bind (app_ok I1 h1 (by rw [sizeLine_eq, ra.len]; simp at few; omega) r1 fun s2 I2 => wpAny_pure ⟨F1, _, I2, g1.ff, A1.add h1 ra rp⟩)
/-- the begin of a clause behind the first -/
theorem begin_of {prog : Program} {w : World} {A : Around} {Z : Result → Shared → Prop} {s : Shared} {itv acc : Value} {env : PySem.Env} (nasy : ((clausesOf (.ListComp elt gens scope pos))[k]?).elim false (·.is_async != 0) = false)
    (h0 : codeAny (model prog w) A (.compLoop (.ListComp elt gens scope pos) k itv acc env) Z s) (h1 : wpAny (model prog w) A (pyIter itv) (fun it' s' => codeAny (model prog w) A (.compLoop (.ListComp elt gens scope pos) k it' acc env) Z s') (notedBy (model prog w) A env fun x s' => Z (.error x) s') s) :
    codeAny (model prog w) A (.compStart (.ListComp elt gens scope pos) k itv acc env) Z s := by
  refine codeAny_of_tree ?_
  show wpAny _ _ ((compStart (.ListComp elt gens scope pos) k itv acc env).onRaise fun x => do
    noteFrame x env
    standAt theWindowsPlace) _ _ s
  refine wpAny_notedAt ?_
  unfold compStart
  rw [nasy]
  show wpAny _ _ (ask >>= _) _ _ s
  refine wpAny_bind (wpAny_askSetting (wpAny_ite ?_))
  split
  · first
      | exact wpAny_bind (wpAny_pure (wpAny_pure ⟨rfl, h0⟩))
      | exact wpAny_pure ⟨rfl, h0⟩
  · refine wpAny_bind (wpAny_rule ?_)
    cases (clausesOf (.ListComp elt gens scope pos))[k]? with
    | none => exact wpAny_bind (wpAny_mono h1 (fun it' s' h => wpAny_pure ⟨rfl, h⟩) fun _ _ z => z)
    | some g =>
      show wpAny _ _ (standAt g.iter.pos >>= _) _ _ s
      exact wpAny_bind (wpAny_standAt (wpAny_bind (wpAny_mono h1 (fun it' s' h => wpAny_pure ⟨rfl, h⟩) fun _ _ z => z)))
/-- another clause within -/
theorem inner_next {fi : Env → R (List D)} {f : Env → List D → Option (List D)} (hx : ∀ e s, ¬ Y.xe e s) (nasy : ((clausesOf (.ListComp elt gens scope pos))[k]?).elim false (·.is_async != 0) = false)
    (hf : ∀ x, foldedSetIterable iter Y.env x = pure x) (hi : DI Y W tg iter fi) (lv : Lvl Y (.ListComp elt gens scope pos) k tg Dd js f) :
    Inner Y Dd (do
      let x ← eval iter Y.env
      standAt iter.pos
      let x ← foldedSetIterable iter Y.env x
      let _ ← runOwn (.compStart (.ListComp elt gens scope pos) k (← holding [x] (pyIter x)) (.ref Dd) Y.env) Y.env) js (fun ρ => (calm (fi ρ)).bind fun items => f (wipeE ρ js) items) := by
  intro pins s σ H Fb Hb F0 H0 ρ F dn out I A e few
  obtain ⟨items, e1, e2⟩ := Option.bind_eq_some_iff.mp e
  have e1 := calm_some e1
  have no : ∀ {E : Value → Shared → Prop} (e : Value) (s : Shared), Y.xe e s → E e s := fun e s z => (hx e s z).elim
  refine wpAny_bind (wpAny_mono (hi.run pins s σ H (fun J H1 => ∃ F1, Grow F H F1 H1 ∧ ItOk Y.K J F1 items) I ⟨F0, H0, ρ, F, A.sl, by rw [e1]; exact fun J F1 H1 g r => ⟨F1, g, r⟩⟩) (fun z s1 h => ?_) no)
  refine wpAny_bind (wpAny_standAt (wpAny_bind (wpAny_of_eq (hf z) (wpAny_bind (wpAny_holding (wpAny_mono h (fun itv s2 h2 => ?_) no))))))
  obtain ⟨it, fp, tn, J, H2, rfl, I2, T, st2, ff2, F2, g2, ok2⟩ := h2
  refine wpAny_bind (wpAny_runOwn ?_)
  rw [Around.mark_none]
  have lp := lv items J it fp tn pins s2 σ H2 Fb Hb F0 H0 ρ F2 dn out (fun r s' => match r with
      | .ok _ => ∃ F' H', Inv Y pins (L2.wipe σ js) H' s' ∧ Same F F' ∧ Acc Y.K Fb Hb F0 H0 (wipeE ρ js) (L2.wipe σ js) F' H' Dd (dn ++ out)
      | .error _ => False) T ok2 I2 st2 ff2 (A.up g2) e2 few fun F' H' s' I' sm A' => ⟨F', H', I', g2.ff.trans sm, A'⟩
  refine codeAny_mono (begin_of nasy lp (T.self Y.A 0 _ _ _ st2 lp)) fun r s' hr => ?_
  cases r with
  | ok fl =>
    first
      | exact wpAny_pure hr
      | exact wpAny_bind (wpAny_pure (wpAny_pure hr))
  | error e => exact hr.elim
end
section
variable {elt t0 i0 t1 i1 t2 i2 : Expr} {f0 f1 f2 : List Expr} {scope : Scope} {pos : Pos} {Dd : Addr} {env : PySem.Env}
/-- what the last clause does -/
abbrev rEl (elt : Expr) (Dd : Addr) (env : PySem.Env) : Sem Unit := do
  let _ ← call (.builtin "list.append") [.ref Dd, ← eval elt env]
/-- what a clause with another behind it does -/
abbrev rNx (LC : Expr) (k : Nat) (iter : Expr) (Dd : Addr) (env : PySem.Env) : Sem Unit := do
  let x ← eval iter env
  standAt iter.pos
  let x ← foldedSetIterable iter env x
  let _ ← runOwn (.compStart LC k (← holding [x] (pyIter x)) (.ref Dd) env) env
theorem reads1_0 : Reads (.ListComp elt [⟨t0, i0, f0, 0⟩] scope pos) 0 t0 i0.pos f0 Dd env (rEl elt Dd env) := fun it => by rfl
theorem reads2_0 : Reads (.ListComp elt [⟨t0, i0, f0, 0⟩, ⟨t1, i1, f1, 0⟩] scope pos) 0 t0 i0.pos f0 Dd env (rNx (.ListComp elt [⟨t0, i0, f0, 0⟩, ⟨t1, i1, f1, 0⟩] scope pos) 1 i1 Dd env) := fun it => by
  unfold rNx
  simp only [bind_assoc]
  rfl
theorem reads2_1 : Reads (.ListComp elt [⟨t0, i0, f0, 0⟩, ⟨t1, i1, f1, 0⟩] scope pos) 1 t1 i1.pos f1 Dd env (rEl elt Dd env) := fun it => by rfl
theorem reads3_0 : Reads (.ListComp elt [⟨t0, i0, f0, 0⟩, ⟨t1, i1, f1, 0⟩, ⟨t2, i2, f2, 0⟩] scope pos) 0 t0 i0.pos f0 Dd env (rNx (.ListComp elt [⟨t0, i0, f0, 0⟩, ⟨t1, i1, f1, 0⟩, ⟨t2, i2, f2, 0⟩] scope pos) 1 i1 Dd env) := fun it => by
  unfold rNx
  simp only [bind_assoc]
  rfl
theorem reads3_1 : Reads (.ListComp elt [⟨t0, i0, f0, 0⟩, ⟨t1, i1, f1, 0⟩, ⟨t2, i2, f2, 0⟩] scope pos) 1 t1 i1.pos f1 Dd env (rNx (.ListComp elt [⟨t0, i0, f0, 0⟩, ⟨t1, i1, f1, 0⟩, ⟨t2, i2, f2, 0⟩] scope pos) 2 i2 Dd env) := fun it => by
  unfold rNx
  simp only [bind_assoc]
  rfl
theorem reads3_2 : Reads (.ListComp elt [⟨t0, i0, f0, 0⟩, ⟨t1, i1, f1, 0⟩, ⟨t2, i2, f2, 0⟩] scope pos) 2 t2 i2.pos f2 Dd env (rEl elt Dd env) := fun it => by rfl
end
end DL
/-! DL13: the block of a comprehension of several clauses. -/
namespace DL
open PySem PySem.Spec PyProof.Rows L2
abbrev cElt (fe : Env → R D) : Env → Option (List D) := fun ρ => (calm (fe ρ)).map fun d => [d]
abbrev cNext (fi : Env → R (List D)) (js : List Nat) (f : Env → List D → Option (List D)) : Env → Option (List D) := fun ρ => (calm (fi ρ)).bind fun items => f (wipeE ρ js) items
section
variable {X : Cx} {W : Wish} {elt tg iter : Expr} {ifs : List Expr} {gs : List Comprehension} {scope : Scope} {own : List (Str × Nat)} {pos : Pos} {fi : Env → R (List D)} {js : List Nat} {f : Env → List D → Option (List D)}
theorem block_core {pins : List (Addr × Obj)} {s : Shared} {σ : L2.St} {H F0 H0 F : Hp} {ρ : Env} {out : List D} {items : List D} {pos' : Pos} {use : Option (Value → Sem Unit)} {Qf : Value → Shared → Prop} (hN : X.N.Nodup) (I : Inv X pins σ H s) (z : SL X.K F0 H0 ρ σ F H)
    (hi : DI X W tg iter fi) (ei : fi ρ = .ok items) (ok : BlkOk X.N X.env.scope scope own) (hs : ∀ x, foldedSetIterable iter X.env x = pure x)
    (lv : ∀ (s : Shared) (H : Hp) (C : Addr) (cl : List (Str × Addr)) (fp : List Addr) (Dd : Addr), Lvl (X.blk s H scope (compEnvC scope cl C X.env) fp) (.ListComp elt (⟨tg, iter, ifs, 0⟩ :: gs) scope pos) 0 tg Dd js f)
    (ef : f (wipeE (wipeE ρ (own.map (·.2))) js) items = some out) (few : out.length ≤ 16777216)
    (hQ : ∀ Dd C s' m F' H', Inv X pins σ H' s' → Grow F H F' H' → rF X.K F H F' H' (.ref Dd) out → s'.heap.Ns C m → FpOk X pins H' C → compPost (model X.prog X.w) X.A X.xe use Qf (.ref Dd) C (.ok .next) s') :
    wpAny (model X.prog X.w) X.A (comprehension (.ListComp elt (⟨tg, iter, ifs, 0⟩ :: gs) scope pos) scope X.env pos' (newList []) false (eval iter X.env) use) Qf X.xe s := by
  have fr : ∀ y ∈ scope.names, y.2 = .free → ∃ c, X.env.cells.lookup y.1 = some c := fun y hy e => (ok.free y hy e).elim (fun k => I.ok.has _ (.inl k)) fun k => I.ok.has _ (.inr k)
  refine wpAny_comprehension_free (use := use) rfl hs (closure_ok fr) ok.kind (fun y hy e => (ok.uniq y hy).trans (by rw [e])) ?_
  refine thn (hi.run pins s σ H (fun J H1 => ∃ F1, Grow F H F1 H1 ∧ ItOk X.K J F1 items) I ⟨F0, H0, ρ, F, z, by rw [ei]; exact fun J F1 H1 g r => ⟨F1, g, r⟩⟩) fun xv s1 hx => thn hx fun itv s2 h2 => ?_
  obtain ⟨it, fp, tn, J, H2, rfl, I2, T, st2, ff2, F2, g2, ok2⟩ := h2
  refine wpAny_newObj_type (newEnv_comp ?_) (by show 0 ≤ sizeLine; decide)
  have fresh : H2 s2.heap.objs.size = none := I2.hok.fresh (Nat.le_refl _)
  generalize hD : s2.heap.objs.size = Dd at *
  -- the list that is to grow
  generalize es3 : ({ s2 with heap := s2.heap.push { cls := .type "list", data := .seq ([] : List Value).toArray } } : Shared) = s3
  have h3 : s3.heap = s2.heap.push { cls := .type "list", data := .seq ([] : List Value).toArray } := by rw [← es3]
  have I3 : Inv X pins σ (upd H2 Dd (.lst [])) s3 := by
    rw [← es3]
    refine I2.laid (t' := s2.toks) (fun b o e => Heap.get?_push_of_some _ e) (Nat.le_of_eq hD) ⟨Nat.zero_le _, [], 0, .nil, ?_⟩
    rw [← hD]; exact Heap.get?_push_size _ rfl
  have z2 := z.up g2
  have aN : ∀ (i : Nat) (s : S), ρ[i]? = some (some s) → s.own = true → σ[i]? ≠ some (some (V.ref Dd)) := apart_new z2 fresh
  have fD : F2 Dd = none := z2.sub.out fresh
  have A3 : Acc X.K F H F0 H0 ρ σ F2 (upd H2 Dd (.lst [])) Dd [] := ⟨z2.poke fD (z2.grow.hh.free fresh) aN, g2.poke fD (g2.hh.free fresh), g2.hh.free fresh, fD, z2.grow.hh.free fresh, aN, [], upd_same, .nil⟩
  have ff3 : ∀ b ∈ fp, FpOk X pins (upd H2 Dd (.lst [])) b ∧ b < s3.heap.objs.size := fun b hb => by
    obtain ⟨o, eo, _⟩ := T.obj _ _ st2 b hb
    have lt := Heap.lt_size eo
    rw [hD] at lt
    exact ⟨⟨by rw [upd_ne (Nat.ne_of_lt lt)]; exact (ff2 b hb).1, (ff2 b hb).2⟩, by rw [h3, Heap.size_push, hD]; exact Nat.lt_succ_of_lt lt⟩
  have st3 : tn 0 s3.heap := T.keep _ _ _ st2 fun b _ o e => by rw [h3]; exact Heap.get?_push_of_some _ e
  have I4 := block_start I3 ok hN ff3
  have lvl := lv s3 (upd H2 Dd (.lst [])) s3.heap.objs.size (cellsFrom (s3.heap.objs.size + 1) scope.names (cloFrom X.env.cells scope.names [])) fp Dd
  show codeAny _ _ (.compStart (.ListComp elt (⟨tg, iter, ifs, 0⟩ :: gs) scope pos) 0 (.ref it) (.ref Dd) (compEnvC scope (cellsFrom (s3.heap.objs.size + 1) scope.names (cloFrom X.env.cells scope.names [])) s3.heap.objs.size X.env))
    (compPost (model X.prog X.w) X.A X.xe use Qf (.ref Dd) s3.heap.objs.size) { s3 with heap := pushCells (s3.heap.push { cls := .type "dict", data := .dict #[] }) scope.names }
  generalize ece : compEnvC scope (cellsFrom (s3.heap.objs.size + 1) scope.names (cloFrom X.env.cells scope.names [])) s3.heap.objs.size X.env = ce at I4 lvl ⊢
  have loc : ce.locals = s3.heap.objs.size := by subst ece; rfl
  generalize es4 : ({ s3 with heap := pushCells (s3.heap.push { cls := .type "dict", data := .dict #[] }) scope.names } : Shared) = s4 at I4 ⊢
  have st4 : tn 0 s4.heap := T.keep _ _ _ st3 fun b _ o e => by rw [← es4]; exact pushCells_keeps _ _ _ _ (Heap.get?_push_of_some _ e)
  have ff4 : ∀ b ∈ fp, FpOk (X.blk s3 (upd H2 Dd (.lst [])) scope ce fp) [] (upd H2 Dd (.lst [])) b := fun b hb =>
    ⟨(ff3 b hb).1.1, (I4.ok.exf b hb).1, I4.ok.exfs b hb, .inl hb, fun x c e => (I4.ok.exf b hb).2 x c e, fun p hp => absurd (show p ∈ ([] : List (Addr × Obj)) ++ [] from hp) (by simp)⟩
  have lp := lvl items J it fp tn [] s4 _ _ F H F0 H0 _ F2 [] out (compPost (model X.prog X.w) X.A X.xe use Qf (.ref Dd) s3.heap.objs.size) T ok2 I4 st4 ff4 (A3.wipe (own.map (·.2))) ef (by simpa using few) fun F' H' s' I' sm A' => by
    have Ib : Inv X pins σ H' s' := I3.call' (ch := fp) I'.os I'.base I'.hok I'.bare fun b hb => ⟨(ff3 b hb).1.2.2.2.1, (ff3 b hb).1.2.1, (ff3 b hb).1.2.2.2.2.1, (ff3 b hb).1.2.2.2.2.2⟩
    have nC : H' s3.heap.objs.size = none := by
      have q : H' ce.locals = none := I'.free
      rwa [loc] at q
    obtain ⟨m, hm, _⟩ := I'.loc
    have hm : s'.heap.Ns ce.locals m := hm
    rw [loc] at hm
    obtain ⟨acc, h1, r⟩ := A'.own
    rw [List.nil_append] at r
    exact hQ Dd s3.heap.objs.size s' m F' H' Ib A'.gb ⟨Dd, acc, rfl, g2.hh.free fresh, A'.f, h1, r⟩ hm (I3.fpOk (Nat.le_refl _) nC)
  exact codeAny_compStart_list lp (T.self X.A 0 _ _ _ st4 lp)
def lcB (f : Env → List D → Option (List D)) (vs js : List Nat) (ρ : Env) (items : List D) : Option (List D) := (f (wipeE (wipeE ρ vs) js) items).bind fun out => if out.length ≤ 16777216 then some out else none
theorem lcB_some {vs : List Nat} {ρ : Env} {items out : List D} (h : lcB f vs js ρ items = some out) : f (wipeE (wipeE ρ vs) js) items = some out ∧ out.length ≤ 16777216 := by
  obtain ⟨o, e1, e2⟩ := Option.bind_eq_some_iff.mp h
  split at e2
  · rename_i hl; cases e2; exact ⟨e1, hl⟩
  · cases e2
/-- as a value -/
theorem df_lcN (hN : X.N.Nodup) (hi : DI X W tg iter fi) (ok : BlkOk X.N X.env.scope scope own)
    (lv : ∀ (s : Shared) (H : Hp) (C : Addr) (cl : List (Str × Addr)) (fp : List Addr) (Dd : Addr), Lvl (X.blk s H scope (compEnvC scope cl C X.env) fp) (.ListComp elt (⟨tg, iter, ifs, 0⟩ :: gs) scope pos) 0 tg Dd js f)
    (hs : ∀ x, foldedSetIterable iter X.env x = pure x := by intro _; rfl) :
    DF X W (.ListComp elt (⟨tg, iter, ifs, 0⟩ :: gs) scope pos) (fun ρ => (fi ρ).bind fun items => R.of (lcB f (own.map (·.2)) js ρ items)) := by
  refine ⟨fun pins s σ H Q I ⟨F0, H0, ρ, F, z, h⟩ => ?_⟩
  rw [eval_ListComp]
  replace h : Post W (rF X.K) F H σ ((fi ρ).bind fun items => R.of (lcB f (own.map (·.2)) js ρ items)) Q := h
  cases ei : fi ρ with
  | stuck => rw [ei] at h; exact h.elim
  | err c =>
    rw [ei] at h
    refine wpAny_comprehension_free (use := none) rfl hs (closure_ok fun y hy e => (ok.free y hy e).elim (fun k => I.ok.has _ (.inl k)) fun k => I.ok.has _ (.inr k)) ok.kind (fun y hy e => (ok.uniq y hy).trans (by rw [e])) ?_
    refine thn (hi.run pins s σ H (fun J H1 => False) I ⟨F0, H0, ρ, F, z, by rw [ei]; exact h⟩) fun xv s1 hx => thn hx fun itv s2 h2 => ?_
    obtain ⟨_, _, _, _, _, _, _, _, _, _, q⟩ := h2
    exact q.elim
  | ok items =>
    rw [ei] at h
    obtain ⟨out, e, hF⟩ := post_of h
    obtain ⟨e1, e2⟩ := lcB_some e
    refine block_core hN I z hi ei ok hs lv e1 e2 fun Dd C s' m F' H' I' g r hn ff => ⟨m, hn, fun h'' sb => ?_⟩
    obtain ⟨f0, f1, f2, f3, f4, f5⟩ := ff
    exact ⟨.ref Dd, H', I'.turned (t' := s'.toks) (fun b o hb e => (sb.2 b hb).trans e) f0 f1 f3 f4 f5, rfl, hF _ _ _ g r⟩
/-- name = [..] on its line -/
theorem ps_lcN {i : Nat} {y : Str} {py spos : Pos} (hN : X.N.Nodup) (hy : X.N[i]? = some y) (hyl : X.env.scope.names.lookup y = some .local)
    (hsw : swapsWith (.ListComp elt (⟨tg, iter, ifs, 0⟩ :: gs) scope pos) (some (.Name y py)) spos.line X.env = pure true) (hi : DI X W tg iter fi) (ok : BlkOk X.N X.env.scope scope own)
    (lv : ∀ (s : Shared) (H : Hp) (C : Addr) (cl : List (Str × Addr)) (fp : List Addr) (Dd : Addr), Lvl (X.blk s H scope (compEnvC scope cl C X.env) fp) (.ListComp elt (⟨tg, iter, ifs, 0⟩ :: gs) scope pos) 0 tg Dd js f)
    (hs : ∀ x, foldedSetIterable iter X.env x = pure x := by intro _; rfl) :
    PS X (.Assign [.Name y py] (.ListComp elt (⟨tg, iter, ifs, 0⟩ :: gs) scope pos) spos) (tAsg (tG X.K W (rF X.K) (fun ρ => (fi ρ).bind fun items => R.of (lcB f (own.map (·.2)) js ρ items))) (gName i)) := by
  refine ⟨fun pins s σ H Dn I h => ?_⟩
  rw [exec_Assign_Name_used _ _ _ _ hsw]
  refine wpAny_bind (wpAny_standAt (wpAny_bind ?_))
  obtain ⟨F0, H0, ρ, F, z, h⟩ := h
  have h : Post W (rF X.K) F H σ ((fi ρ).bind fun items => R.of (lcB f (own.map (·.2)) js ρ items)) (fun x H1 => gName i x σ H1 Dn.nx) := h
  refine wpAny_bind (thn (Q := fun _ s' => SP X pins Dn .next s') ?_ fun _ s' hq => wpAny_pure (wpAny_pure hq))
  cases ei : fi ρ with
  | stuck => rw [ei] at h; exact h.elim
  | err c =>
    rw [ei] at h
    refine wpAny_comprehension_free (use := some (assign (.Name y py) X.env)) rfl hs (closure_ok fun y hy e => (ok.free y hy e).elim (fun k => I.ok.has _ (.inl k)) fun k => I.ok.has _ (.inr k)) ok.kind (fun y hy e => (ok.uniq y hy).trans (by rw [e])) ?_
    refine thn (hi.run pins s σ H (fun J H1 => False) I ⟨F0, H0, ρ, F, z, by rw [ei]; exact h⟩) fun xv s1 hx => thn hx fun itv s2 h2 => ?_
    obtain ⟨_, _, _, _, _, _, _, _, _, _, q⟩ := h2
    exact q.elim
  | ok items =>
    rw [ei] at h
    obtain ⟨out, e, hF⟩ := post_of h
    obtain ⟨e1, e2⟩ := lcB_some e
    refine block_core (use := some (assign (.Name y py) X.env)) hN I z hi ei ok hs lv e1 e2 fun Dd C s' m F' H' I' g r hn ff => ?_
    show wpAny _ _ (assign (.Name y py) X.env (.ref Dd)) _ _ _
    refine wpAny_assign_Name (store_ok2 (v := V.ref Dd) I' hN hy (.inl hyl) rfl (fun s2 I2 ⟨a, sb, ha⟩ => ?_) (.inr hyl))
    obtain ⟨f0, f1, f2, f3, f4, f5⟩ := ff
    have hCa : C ≠ a := ha.elim (fun q => by rw [q]; exact f1) fun q e => f4 y a q e.symm
    refine ⟨m, hn.sameBut sb hCa, fun h3 sb3 => ?_⟩
    exact ⟨_, H', I2.turned (t' := s2.toks) (fun b o hb e => (sb3.2 b hb).trans e) f0 f1 f3 f4 f5, hF _ _ _ g r⟩
end
abbrev lLcN (vs js : List Nat) (f : Env → List D → Option (List D)) (fi : Env → R (List D)) : Env → R (List D) := fun ρ => (fi ρ).bind fun items => R.of (lcB f vs js ρ items)
end DL
/-! DL14: len(set(texts)). -/
namespace DL
open PySem PySem.Spec PyProof.Rows L2
def dcnt (xs : List Str) : Nat → Nat
  | 0 => 0
  | i + 1 => if (xs.take i).any (· == xs.getD i Str.empty) = true then dcnt xs i else dcnt xs i + 1
theorem dcnt_le (xs : List Str) : ∀ i, dcnt xs i ≤ i
  | 0 => Nat.le_refl _
  | i + 1 => by
    unfold dcnt
    have := dcnt_le xs i
    split <;> omega
def emptySet (led : Bool) : Obj := { cls := .type "set", dict := none, data := .set #[] 0 (.fresh 0 0 led) }
section
variable {prog : Program} {w : World} {A : Around} {Z : Result → Shared → Prop} {ia : Addr} {fp wr : List Addr} {Gs : Array GenState → Array GenState → Prop} {n : Nat} {Pv : Nat → Value → Prop} {St : Nat → Shared → Prop}
theorem setLoop (W : WalksS prog w A.in1 ia fp wr Gs n Pv St) (Sa : Addr) (far : Sa ∉ fp) (xs : List Str) (len : xs.length = n) (few : n < 4000) (txt : ∀ i v, Pv i v → ∃ t, v = .str (xs.getD i Str.empty) t) :
    ∀ (k i : Nat) (s : Shared), n - i = k → i ≤ n → St i s → s.heap.SetOf (PySem.strKind prog w) Sa (fun z => (xs.take i).any (· == z)) (dcnt xs i) →
      (∀ s', Moved (Sa :: wr) Gs s s' → s'.heap.SetOf (PySem.strKind prog w) Sa (fun z => (xs.take n).any (· == z)) (dcnt xs n) → Z (.ok (.ret .none)) s') →
      codeAny (model prog w) A (.builtin "set.update.loop" ⟨[.ref Sa, .ref ia], []⟩) Z s := by
  have nw : Sa ∉ wr := fun q => far (W.sub _ q)
  have more : ∀ b ∈ wr, b ∈ Sa :: wr := fun b q => List.mem_cons_of_mem _ q
  intro k
  induction k with
  | zero =>
    intro i s ek hi st hS fin
    obtain rfl : i = n := by omega
    refine codeAny_builtin PyProof.Rows.F.entry_set_update_loop ?_
    rw [Around.under_plainId PyProof.Rows.F.plain_set_update_loop _]
    show wpAny _ A.in1 (pyNext (.ref ia) >>= _) _ _ s
    refine wpAny_bind (W.done s _ _ st fun s1 mv => ?_)
    show wpAny _ A.in1 (ret Value.none) _ _ s1
    refine wpAny_pure (fin s1 (mv.mono more) ?_)
    obtain ⟨ob, es, ep, tb, g, tail⟩ := hS
    exact ⟨ob, es, ep, tb, mv.heap Sa _ nw g, tail⟩
  | succ k ih =>
    intro i s ek hi st hS fin
    have lt : i < n := by omega
    refine codeAny_builtin PyProof.Rows.F.entry_set_update_loop ?_
    rw [Around.under_plainId PyProof.Rows.F.plain_set_update_loop _]
    show wpAny _ A.in1 (pyNext (.ref ia) >>= _) _ _ s
    refine wpAny_bind (W.item i s _ _ lt st fun v s1 pv st1 mv => ?_)
    obtain ⟨tt, rfl⟩ := txt i v pv
    have hS1 : s1.heap.SetOf (PySem.strKind prog w) Sa (fun z => (xs.take i).any (· == z)) (dcnt xs i) := by
      obtain ⟨ob, es, ep, tb, g, tail⟩ := hS
      exact ⟨ob, es, ep, tb, mv.heap Sa _ nw g, tail⟩
    generalize ex : xs.getD i Str.empty = x at *
    show wpAny _ A.in1 (holding [Value.str x tt] (setAdd Sa (.str x tt)) >>= _) _ _ s1
    refine wpAny_bind (wpAny_holding ?_)
    unfold setAdd
    refine wpAny_holding (wpAny_bind ((PySem.strKind prog w).pyHash (k := x) (strKind_is _ _ _ _) ?_))
    have room : dcnt xs i + 1 < scanBound := by have := dcnt_le xs i; unfold scanBound; omega
    refine wpAny_setAddHashed_of (knd := PySem.strKind prog w) (s := { s1 with toks := s1.toks + 1 }) (strKind_is _ _ _ _) rfl hS1 room fun h2 sb hS2 => ?_
    have hS3 : h2.SetOf (PySem.strKind prog w) Sa (fun z => (xs.take (i + 1)).any (· == z)) (dcnt xs (i + 1)) := by
      refine SetOf_congr hS2 (fun z => ?_) (by rw [show dcnt xs (i + 1) = if (xs.take i).any (· == xs.getD i Str.empty) = true then dcnt xs i else dcnt xs i + 1 from rfl, ex])
      have lt2 : i < xs.length := by omega
      have ei : xs[i]? = some x := by rw [← ex, List.getD_eq_getElem?_getD, List.getElem?_eq_getElem lt2]; rfl
      rw [List.take_add_one, ei]
      show ((xs.take i).any (· == z) || decide (z = x)) = (xs.take i ++ [x]).any (· == z)
      rw [List.any_append]
      congr 1
      show decide (z = x) = ((x == z) || false)
      rw [Bool.or_false]
      by_cases e : z = x
      · subst e; simp
      · rw [decide_eq_false e]; exact (beq_eq_false_iff_ne.mpr fun q => e q.symm).symm
    refine wpAny_pure ⟨plainId_quiet PyProof.Rows.F.plain_set_update_loop _, ih (i + 1) _ (by omega) lt (W.frame _ s1 _ _ st1 (Nat.le_succ _) fun b hb o e => ?_) hS3 fun s3 mv3 hS4 => ?_⟩
    · rw [sb.2 b fun q : b = Sa => far (by rw [← q]; exact hb)]; exact e
    · refine fin s3 (Moved.trans W.gtrans ((mv.mono more).then_heap (Nat.le_succ _) fun b o hb e => ?_) mv3) hS4
      rw [sb.2 b fun q : b = Sa => hb (by rw [q]; exact List.mem_cons_self)]; exact e
end

set_option maxHeartbeats 3200000 in
theorem set_of_list {prog : Program} {w : World} {A : Around} {E Q : Value → Shared → Prop} {s : Shared} {la : Addr} {vals : Array Value} {xs : List Str} (quiet : A.handled = none) (isq : s.heap.IsList la vals) (txt : PyProof.Rows.StrsAre vals.toList xs) (few : xs.length < 4000)
    (post : ∀ (h' : Heap) (tk : Nat), h'.SetOf (PySem.strKind prog w) s.heap.objs.size (fun z => (xs.take vals.size).any (· == z)) (dcnt xs vals.size) → (∀ b o, b < s.heap.objs.size → s.heap.get? b = some o → h'.get? b = some o) → Q (.ref s.heap.objs.size) { s with heap := h', toks := tk }) :
    wpAny (model prog w) A (call (.type "set") [.ref la]) Q E s := by
  have ⟨c0, tl0, mro0⟩ := PySem.F.called_set.mro
  have made0 := PySem.F.called_set.made
  have sub0 := PySem.F.called_set.sub
  refine wpAny_call (codeAny_of_tree ?_)
  show wpAny _ _ (callAny (.type "set") _) _ _ _
  refine wpAny_pure ⟨Code.quiet_builtin _ (by decide +kernel), codeAny_builtin PySem.F.entry_type_call ?_⟩
  rw [Around.under_plain (weight_type_call_type "set" [.ref la] []) rfl]
  have nt0 := PySem.F.called_set.notType
  have cc0 := PySem.F.called_set.canCreate
  have tc0 := PySem.F.typeCall_set_1 (.ref la)
  repeat (any_goals (first | assumption | wp_step))
  refine codeAny_mono (code_set_new_1 (.ref la) (E := E) (Q₁ := fun ob s1 => ∃ led : Bool, ob = .ref s.heap.objs.size ∧ s1 = { s with heap := s.heap.push (emptySet led) }) fun led => ⟨led, rfl, rfl⟩) fun r s1 hr => ?_
  cases r with
  | error e => exact hr
  | ok fl =>
  cases fl with
  | ret ob =>
    obtain ⟨led, rfl, rfl⟩ := hr
    have gS : (s.heap.push (emptySet led)).get? s.heap.objs.size = some (emptySet led) := Heap.get?_push_size _ rfl
    have tS : Shared.TypeIs { s with heap := s.heap.push (emptySet led) } (.ref s.heap.objs.size) "set" := ⟨_, gS, rfl⟩
    have il := PySem.F.called_set.init.lookup
    have ib := PySem.F.called_set.init.bind (.ref s.heap.objs.size)
    repeat (any_goals (first | assumption | wp_step))
    refine codeAny_mono (codeAny_call_builtin (R := wants (fun r s2 => r = .none ∧ ∃ h' tk, s2 = { s with heap := h', toks := tk } ∧ h'.SetOf (PySem.strKind prog w) s.heap.objs.size (fun z => (xs.take vals.size).any (· == z)) (dcnt xs vals.size) ∧
        (∀ b o, b < s.heap.objs.size → s.heap.get? b = some o → h'.get? b = some o)) E) PySem.F.called_set.init.plain PySem.F.entry_set_init (check_set_init_1 tS ?_)) fun r2 s2 hr2 => ?_
    · obtain ⟨⟨ocls, odct, odat, oslt⟩, gl, hcl, cap, hdl⟩ := isq
      simp only at hcl hdl
      subst hcl hdl
      have gl1 : (s.heap.push (emptySet led)).get? la = some { cls := .type "list", dict := odct, data := .seq vals cap, slots := oslt } := Heap.get?_push_of_some _ gl
      have ss1 := PySem.F.sub_list_set
      have ss2 := PySem.F.sub_list_frozenset
      have nd : (Value.type "list" == Value.type "dict") = false := by decide
      have isq1 : (s.heap.push (emptySet led)).IsList la vals := ⟨_, gl1, rfl, cap, rfl⟩
      unfold Builtin.«set.__init__» noKeywords Builtin.Frozenset.updateFrom
      generalize eIt : pyIter = theIter
      wp_walk
      subst eIt
      refine wpAny_pyIter_list isq1 ?_
      refine wpAny_bind (wpAny_runValue ?_)
      have ltl : la < s.heap.objs.size := Heap.lt_size gl
      have quiet3 : A.in1.in1.in1.handled = none := by simp [quiet]
      have psz : (s.heap.push (emptySet led)).objs.size = s.heap.objs.size + 1 := Heap.size_push ..
      have la_ne : la ≠ (s.heap.push (emptySet led)).objs.size := by rw [psz]; exact Nat.ne_of_lt (Nat.lt_succ_of_lt ltl)
      have S_out : s.heap.objs.size ∉ [(s.heap.push (emptySet led)).objs.size, la] := by
        rw [psz]; exact out2 (Nat.ne_of_lt (Nat.lt_succ_self _)) (Nat.ne_of_gt ltl)
      have lens : xs.length = vals.size := by rw [← PyProof.Rows.StrsAre.len_eq txt, Array.length_toList]
      refine setLoop ((Walks.list quiet3 _ la la_ne vals).toS) s.heap.objs.size S_out xs lens (by omega) (fun i v hv => SS.strs_at txt i v (by rw [Array.getElem?_toList]; exact hv)) (vals.size - 0) 0 _ (by omega) (Nat.zero_le _)
        ⟨⟨_, Heap.get?_push_size _ rfl, rfl, rfl⟩, isq1.push _⟩ ?begin ?finish
      case begin =>
        exact PyProof.Rows.SetOf_congr ((PyProof.Rows.setObjOf_fresh (knd := PySem.strKind prog w) led).setOf (Heap.get?_push_of_some _ gS) (by unfold scanBound; omega)) (fun _ => rfl) rfl
      case finish =>
        rintro ⟨h', g', d', tk', os'⟩ mv hS'
        obtain rfl : g' = s.gens := mv.gens
        obtain rfl : d' = s.drawn := mv.drawn
        obtain rfl : os' = s.os := mv.os
        show wpAny _ _ _ _ _ _
        refine wpAny_pure ?_
        show wpAny _ _ (ret Value.none) _ _ _
        refine wpAny_pure ⟨rfl, h', tk', rfl, hS', fun b o hb e => ?_⟩
        refine mv.heap b o (fun q => ?_) (Heap.get?_push_of_some _ (Heap.get?_push_of_some _ e))
        rw [psz] at q
        exact out2 (Nat.ne_of_lt hb) (Nat.ne_of_lt (Nat.lt_succ_of_lt hb)) q
    · cases r2 with
      | error e => exact hr2
      | ok fl2 =>
        cases fl2 with
        | ret r =>
          obtain ⟨rfl, h', tk, rfl, hS', hk'⟩ := hr2
          repeat (any_goals (first | assumption | wp_step))
          exact post _ _ hS' hk'
        | _ => exact hr2.elim
  | _ => exact hr.elim

set_option maxHeartbeats 3200000 in
theorem set_of_tuple {prog : Program} {w : World} {A : Around} {E Q : Value → Shared → Prop} {s : Shared} {la : Addr} {vals : Array Value} {xs : List Str} (quiet : A.handled = none) (isq : s.heap.IsTuple la vals) (txt : PyProof.Rows.StrsAre vals.toList xs) (few : xs.length < 4000)
    (post : ∀ (h' : Heap) (tk : Nat), h'.SetOf (PySem.strKind prog w) s.heap.objs.size (fun z => (xs.take vals.size).any (· == z)) (dcnt xs vals.size) → (∀ b o, b < s.heap.objs.size → s.heap.get? b = some o → h'.get? b = some o) → Q (.ref s.heap.objs.size) { s with heap := h', toks := tk }) :
    wpAny (model prog w) A (call (.type "set") [.ref la]) Q E s := by
  have ⟨c0, tl0, mro0⟩ := PySem.F.called_set.mro
  have made0 := PySem.F.called_set.made
  have sub0 := PySem.F.called_set.sub
  refine wpAny_call (codeAny_of_tree ?_)
  show wpAny _ _ (callAny (.type "set") _) _ _ _
  refine wpAny_pure ⟨Code.quiet_builtin _ (by decide +kernel), codeAny_builtin PySem.F.entry_type_call ?_⟩
  rw [Around.under_plain (weight_type_call_type "set" [.ref la] []) rfl]
  have nt0 := PySem.F.called_set.notType
  have cc0 := PySem.F.called_set.canCreate
  have tc0 := PySem.F.typeCall_set_1 (.ref la)
  repeat (any_goals (first | assumption | wp_step))
  refine codeAny_mono (code_set_new_1 (.ref la) (E := E) (Q₁ := fun ob s1 => ∃ led : Bool, ob = .ref s.heap.objs.size ∧ s1 = { s with heap := s.heap.push (emptySet led) }) fun led => ⟨led, rfl, rfl⟩) fun r s1 hr => ?_
  cases r with
  | error e => exact hr
  | ok fl =>
  cases fl with
  | ret ob =>
    obtain ⟨led, rfl, rfl⟩ := hr
    have gS : (s.heap.push (emptySet led)).get? s.heap.objs.size = some (emptySet led) := Heap.get?_push_size _ rfl
    have tS : Shared.TypeIs { s with heap := s.heap.push (emptySet led) } (.ref s.heap.objs.size) "set" := ⟨_, gS, rfl⟩
    have il := PySem.F.called_set.init.lookup
    have ib := PySem.F.called_set.init.bind (.ref s.heap.objs.size)
    repeat (any_goals (first | assumption | wp_step))
    refine codeAny_mono (codeAny_call_builtin (R := wants (fun r s2 => r = .none ∧ ∃ h' tk, s2 = { s with heap := h', toks := tk } ∧ h'.SetOf (PySem.strKind prog w) s.heap.objs.size (fun z => (xs.take vals.size).any (· == z)) (dcnt xs vals.size) ∧
        (∀ b o, b < s.heap.objs.size → s.heap.get? b = some o → h'.get? b = some o)) E) PySem.F.called_set.init.plain PySem.F.entry_set_init (check_set_init_1 tS ?_)) fun r2 s2 hr2 => ?_
    · obtain ⟨⟨ocls, odct, odat, oslt⟩, gl, hcl, cap, hdl⟩ := isq
      simp only at hcl hdl
      subst hcl hdl
      have gl1 : (s.heap.push (emptySet led)).get? la = some { cls := .type "tuple", dict := odct, data := .seq vals cap, slots := oslt } := Heap.get?_push_of_some _ gl
      have ss1 := PySem.F.sub_tuple_set
      have ss2 := PySem.F.sub_tuple_frozenset
      have nd : (Value.type "tuple" == Value.type "dict") = false := by decide
      have isq1 : (s.heap.push (emptySet led)).IsTuple la vals := ⟨_, gl1, rfl, cap, rfl⟩
      unfold Builtin.«set.__init__» noKeywords Builtin.Frozenset.updateFrom
      generalize eIt : pyIter = theIter
      wp_walk
      subst eIt
      refine wpAny_pyIter_tuple isq1 ?_
      refine wpAny_bind (wpAny_runValue ?_)
      have ltl : la < s.heap.objs.size := Heap.lt_size gl
      have quiet3 : A.in1.in1.in1.handled = none := by simp [quiet]
      have psz : (s.heap.push (emptySet led)).objs.size = s.heap.objs.size + 1 := Heap.size_push ..
      have la_ne : la ≠ (s.heap.push (emptySet led)).objs.size := by rw [psz]; exact Nat.ne_of_lt (Nat.lt_succ_of_lt ltl)
      have S_out : s.heap.objs.size ∉ [(s.heap.push (emptySet led)).objs.size, la] := by
        rw [psz]; exact out2 (Nat.ne_of_lt (Nat.lt_succ_self _)) (Nat.ne_of_gt ltl)
      have lens : xs.length = vals.size := by rw [← PyProof.Rows.StrsAre.len_eq txt, Array.length_toList]
      refine setLoop ((Walks.tuple quiet3 _ la la_ne vals).toS) s.heap.objs.size S_out xs lens (by omega) (fun i v hv => SS.strs_at txt i v (by rw [Array.getElem?_toList]; exact hv)) (vals.size - 0) 0 _ (by omega) (Nat.zero_le _)
        ⟨⟨_, Heap.get?_push_size _ rfl, rfl, rfl⟩, isq1.push _⟩ ?begin ?finish
      case begin =>
        exact PyProof.Rows.SetOf_congr ((PyProof.Rows.setObjOf_fresh (knd := PySem.strKind prog w) led).setOf (Heap.get?_push_of_some _ gS) (by unfold scanBound; omega)) (fun _ => rfl) rfl
      case finish =>
        rintro ⟨h', g', d', tk', os'⟩ mv hS'
        obtain rfl : g' = s.gens := mv.gens
        obtain rfl : d' = s.drawn := mv.drawn
        obtain rfl : os' = s.os := mv.os
        show wpAny _ _ _ _ _ _
        refine wpAny_pure ?_
        show wpAny _ _ (ret Value.none) _ _ _
        refine wpAny_pure ⟨rfl, h', tk', rfl, hS', fun b o hb e => ?_⟩
        refine mv.heap b o (fun q => ?_) (Heap.get?_push_of_some _ (Heap.get?_push_of_some _ e))
        rw [psz] at q
        exact out2 (Nat.ne_of_lt hb) (Nat.ne_of_lt (Nat.lt_succ_of_lt hb)) q
    · cases r2 with
      | error e => exact hr2
      | ok fl2 =>
        cases fl2 with
        | ret r =>
          obtain ⟨rfl, h', tk, rfl, hS', hk'⟩ := hr2
          repeat (any_goals (first | assumption | wp_step))
          exact post _ _ hS' hk'
        | _ => exact hr2.elim
  | _ => exact hr.elim

/-! ### over data -/
def oStrs (x : D) : Option (List Str) := (oSeq x).bind fun p => strs? p.2
def oLenSet (x : D) : Option D := (oStrs x).bind fun xs => if xs.length < 4000 then some (.int (dcnt xs xs.length)) else none
def tLS (K : KF) (ta : TE) : TE := fun σ H Q => ta σ H fun x H1 => ∃ b l, ∃ xs : List Str, x = .ref l ∧ SqG K H1 b l (xs.map V.str) ∧ xs.length < 4000 ∧ Q (.int (dcnt xs xs.length)) H1
section
variable {X : Cx} {W : Wish}
theorem pe_LS {a : Expr} {ta : TE} {p p2 q pos : Pos} (hc : X.calm = true) (hg : Gl X "len") (hm : X.mg "len" = none) (hg2 : Gl X "set") (hm2 : X.mg "set" = none) (ha : PE X a ta)
    (na : starEach [a] X.env = (false, eval a X.env) :: starEach [] X.env := by rfl) : PE X (.Call (.Name "len" p) [.Call (.Name "set" p2) [a] [] q] [] pos) (tLS X.K ta) := by
  refine ⟨fun pins s σ H Q I h => ?_⟩
  refine Call_ (ld_blt I hg hm boot_len ?_)
  refine PyProof.Rows.callWith_builtin1 (PyProof.Rows.args_cons ?_ rfl) rfl rfl
  refine Call_ (ld_blt I hg2 hm2 boot_set ?_)
  refine PyProof.Rows.callWith_type1 (PyProof.Rows.args_cons (thn (ha.run pins s σ H _ I h) fun v s1 ⟨x, H1, I1, r1, q1⟩ => PyProof.Rows.args_nil ?_) na) na rfl
  obtain ⟨b, l, xs, rfl, hq, few, q1⟩ := q1
  cases r1
  obtain ⟨its, rv, p1⟩ := inv_G I1 hq
  have len : its.toArray.size = xs.length := by rw [List.size_toArray, ← rv.length, List.length_map]
  have fin : ∀ (h' : Heap) (tk : Nat), h'.SetOf (PySem.strKind X.prog X.w) s1.heap.objs.size (fun z => (xs.take its.toArray.size).any (· == z)) (dcnt xs its.toArray.size) →
      (∀ b o, b < s1.heap.objs.size → s1.heap.get? b = some o → h'.get? b = some o) →
      wpAny (model X.prog X.w) X.A (spliced (backTo pos (starEach [] X.env))) (fun vs s2 => wpAny (model X.prog X.w) X.A (call (.builtin "len") (Value.ref s1.heap.objs.size :: vs)) (EP X pins σ Q) X.xe s2) X.xe { s1 with heap := h', toks := tk } := fun h' tk hS hk => by
    refine PyProof.Rows.args_nil ?_
    rw [len] at hS
    obtain ⟨o, es, ep, t, ho, hex, hd, _, _, _, hf, hn⟩ := hS
    have I2 : Inv X pins σ H1 { s1 with heap := h', toks := tk } := I1.kept fun b o e => hk b o (Heap.lt_size e) e
    have dl := dcnt_le xs xs.length
    exact call_len_set ho hex hd hf (by rw [hn]; omega) ⟨.int (dcnt xs xs.length), H1, I2.tok _, ⟨_, by rw [hn]⟩, q1⟩
  cases b with
  | true => exact set_of_list (I1.ok.hd hc) p1 (by simpa using strsAre_of rv) few fin
  | false => exact set_of_tuple (I1.ok.hd hc) p1 (by simpa using strsAre_of rv) few fin
theorem dv_lenSet {a : Expr} {fa : Env → R D} {p p2 q pos : Pos} (hc : X.calm = true) (hg : Gl X "len") (hg2 : Gl X "set") (hm : X.mg "len" = none) (hm2 : X.mg "set" = none) (ha : DB X W a fa)
    (na : starEach [a] X.env = (false, eval a X.env) :: starEach [] X.env := by rfl) : DV X W (.Call (.Name "len" p) [.Call (.Name "set" p2) [a] [] q] [] pos) (fun ρ => (fa ρ).bind fun x => R.of (oLenSet x)) :=
  (pe_LS hc hg hm hg2 hm2 ha na).weak fun σ H Q ⟨F0, H0, ρ, F, z, h⟩ => post_bind z rV_early h fun F1 H1 v x z1 g1 r1 h => by
    obtain ⟨d, e, hF⟩ := post_of h
    obtain ⟨xs, e1, e2⟩ := Option.bind_eq_some_iff.mp e
    obtain ⟨⟨b, ds⟩, e3, e4⟩ := Option.bind_eq_some_iff.mp e1
    split at e2
    · rename_i few
      cases e2
      have key : ∃ b a, v = .ref a ∧ SqG X.K H1 b a (xs.map V.str) := by
        cases r1 with
        | rep r1 =>
          obtain ⟨a, vs, rfl, s1, q1⟩ := rep_sq r1 e3
          rw [← q1.strs e4]
          exact ⟨b, a, rfl, SqG.up z1.sub s1⟩
        | lst h1 q1 =>
          cases e3
          rw [← q1.strs e4]
          exact ⟨true, _, rfl, SqL.of h1⟩
        | dct h1 q1 => cases e3
        | ins h1 c1 q1 => cases e3
      obtain ⟨b, a, rfl, s1⟩ := key
      exact ⟨b, a, xs, rfl, s1, few, hF _ _ _ (Grow.refl z1.sub) (.int _)⟩
    · cases e2
end
end DL
/-! DL15: own instances, own dicts; a class's objects made. -/
namespace DL
open PySem PySem.Spec PyProof.Rows L2

/-! ### attributes -/
def putD (f : Str) (d : D) : List (Str × D) → List (Str × D)
  | [] => [(f, d)]
  | (g, x) :: r => if g = f then (g, d) :: r else (g, x) :: putD f d r
def putE {κ : Type} [DecidableEq κ] (kvs : List (κ × D)) (k : κ) (v : D) : List (κ × D) :=
  if (kvs.any fun kv => decide (kv.1 = k)) = true then kvs.map (fun kv => if kv.1 = k then (kv.1, v) else kv) else kvs ++ [(k, v)]
section
variable {K : KF} {F F' H H' F0 H0 : Hp} {f : Str} {v : V} {d : D}
theorem RepF.put (rv : Rep K F v d) : ∀ {es : List (Str × V)} {fs : List (Str × D)}, RepF K F es fs → RepF K F (putF f v es) (putD f d fs)
  | _, _, .nil => .cons rv .nil
  | _, _, .cons (f := g) a t => by
    unfold putF putD
    split
    · exact .cons rv t
    · exact .cons a (RepF.put rv t)
theorem RepF.len : ∀ {vs : List (Str × V)} {ds : List (Str × D)}, RepF K F vs ds → vs.length = ds.length
  | _, _, .nil => rfl
  | _, _, .cons _ t => by rw [List.length_cons, List.length_cons, RepF.len t]
theorem keys_putD {g : Str} : ∀ {fs : List (Str × D)}, g ∈ (putD f d fs).map (·.1) → g = f ∨ g ∈ fs.map (·.1)
  | [], h => by simp [putD] at h; exact .inl h
  | (k, x) :: r, h => by
    unfold putD at h
    split at h
    · exact .inr h
    · rcases List.mem_cons.mp h with h | h
      · exact .inr (List.mem_cons.mpr (.inl h))
      · rcases keys_putD h with h | h
        · exact .inl h
        · exact .inr (List.mem_cons.mpr (.inr h))
theorem RepK.any {k : List Key} : ∀ {es : List (List Key × V)} {kvs : List (List Key × D)}, RepK K F es kvs → (es.any fun kv => decide (kv.1 = k)) = (kvs.any fun kv => decide (kv.1 = k))
  | _, _, .nil => rfl
  | _, _, .cons _ t => by rw [List.any_cons, List.any_cons, RepK.any t]
theorem RepK.mapSet {k : List Key} (rv : Rep K F v d) : ∀ {es : List (List Key × V)} {kvs : List (List Key × D)}, RepK K F es kvs → RepK K F (es.map fun kv => if kv.1 = k then (kv.1, v) else kv) (kvs.map fun kv => if kv.1 = k then (kv.1, d) else kv)
  | _, _, .nil => .nil
  | _, _, .cons (f := g) a t => by
    rw [List.map_cons, List.map_cons]
    by_cases h : g = k
    · simp only [h, if_pos]; exact .cons rv (RepK.mapSet rv t)
    · simp only [h, if_neg, not_false_eq_true]; exact .cons a (RepK.mapSet rv t)
theorem RepK.app : ∀ {vs ws : List (List Key × V)} {ds es : List (List Key × D)}, RepK K F vs ds → RepK K F ws es → RepK K F (vs ++ ws) (ds ++ es)
  | _, _, _, _, .nil, h => h
  | _, _, _, _, .cons a t, h => .cons a (RepK.app t h)
theorem RepK.put {k : List Key} (rv : Rep K F v d) {es : List (List Key × V)} {kvs : List (List Key × D)} (r : RepK K F es kvs) : RepK K F (putK es k v) (putE kvs k d) := by
  unfold putK putE
  rw [r.any]
  split
  · exact r.mapSet rv
  · exact r.app (.cons rv .nil)
end

/-! ### an object of one's own is written -/
/-- any own slot's object is written over -/
theorem SL.updOwn {K : KF} {F0 H0 F H : Hp} {ρ : Env} {σ : L2.St} (z : SL K F0 H0 ρ σ F H) {i : Nat} {s s' : S} {a : Addr} {o : HO} (q : ρ[i]? = some (some s)) (os : s.own = true) (os' : s'.own = true) (e1 : σ[i]? = some (some (.ref a))) (h0 : H0 a = none) (hf : F a = none)
    (ok : ∀ H', H' a = some o → SlotOk K H0 F H' s' (.ref a)) :
    SL K F0 H0 (ρ.set i (some s')) σ F (upd H a o) := by
  have ap : ∀ (j : Nat) (t : S), ρ[j]? = some (some t) → t.own = true → j ≠ i → σ[j]? ≠ some (some (V.ref a)) := fun j t e3 o3 hj e4 => z.apart j i t _ a hj e3 q o3 os e4 e1
  have hi : i < ρ.length := (List.getElem?_eq_some_iff.mp q).1
  have z2 : SL K F0 H0 (ρ.set i none) (σ.set i none) F H := z.wipe [i]
  have z3 := z2.poke (o := o) hf h0 fun j t e3 o3 e4 => by
    by_cases hj : i = j
    · subst hj
      rw [List.getElem?_set_self hi] at e3
      cases e3
    · rw [List.getElem?_set_ne hj] at e3 e4
      exact ap j t e3 o3 (Ne.symm hj) e4
  have z4 := z3.setS i (v := .ref a) (s := s') (ok _ upd_same) fun _ j t b hj e3 o3 eb e4 => by
    cases eb
    rw [List.getElem?_set_ne (Ne.symm hj)] at e3 e4
    exact ap j t e3 o3 hj e4
  rw [List.set_set, List.set_set] at z4
  have es : σ.set i (some (.ref a)) = σ := by
    apply List.ext_getElem?
    intro j
    by_cases hj : i = j
    · subst hj
      rw [List.getElem?_set_self (by rw [z.len]; exact hi), e1]
    · rw [List.getElem?_set_ne hj]
  rw [es] at z4
  exact z4

section
variable {X : Cx} {W : Wish} {st : Stmt} {pos pos' : Pos} {e : Expr}
abbrev sFldM (i : Nat) (f : Str) (fe : Env → R D) : Env → Option Out := fun ρ => withR (fe ρ) ρ fun d => match ρ[i]? with
  | some (some (.ob a n all fs)) => if f ∈ all ∧ fs.length < 1000 then some (.nx (ρ.set i (some (.ob a n all (putD f d fs))))) else none
  | _ => none
/-- self.f = e, self an instance of one's own -/
theorem ds_fld (i : Nat) {x f : Str} {p : Pos} {fe : Env → R D} (hv : PE X (.Name x p) (tVar i)) (he : DV X W e fe) (hs : swapsWith e (some (.Attribute (.Name x p) f pos')) pos.line X.env = pure false := by rfl) :
    DS X W (.Assign [.Attribute (.Name x p) f pos'] e pos) (sFldM i f fe) := (ps_fld hv he hs).weak fun D σ H ⟨F0, H0, ρ, F, o, z, e, ho⟩ =>
  tS_expr z e ho fun v d F1 H1 z1 g1 r e => by
    have e : (match ρ[i]? with
      | some (some (.ob a n all fs)) => if f ∈ all ∧ fs.length < 1000 then some (Out.nx (ρ.set i (some (.ob a n all (putD f d fs))))) else none
      | _ => none) = some o := e
    split at e
    · rename_i a0 n all fs q
      split at e
      · rename_i hh
        obtain ⟨w, e1, a, C, dx, es, rfl, h0, hf, ha, rf, c, ca, rfl⟩ := z1.slot i _ q
        cases e
        refine ⟨_, e1, a, C, dx, es, rfl, ha, c.cls, c.no f hh.1, by rw [rf.len]; exact hh.2, ho σ F1 _ (z1.updOwn q rfl rfl e1 h0 hf fun H' hH' => ?_)⟩
        exact ⟨a, C, dx, _, rfl, h0, hf, hH', rf.put r, c, fun g hg => (keys_putD hg).elim (fun e => by rw [e]; exact hh.1) (ca g), rfl⟩
      · cases e
    · cases e

/-- name = {} -/
abbrev sSetM (i : Nat) : Env → Option Out := fun ρ => some (.nx (ρ.set i (some (.md []))))
theorem ds_setM {i : Nat} (h : PS X st (tAsg tDNewT (gName i))) : DS X W st (sSetM i) := h.weak fun D σ H ⟨F0, H0, ρ, F, o, z, e, ho⟩ => by
  cases e
  intro p hp
  have g : Grow F H F (upd H p (.dT [])) := Grow.own z.sub hp
  have hf : F p = none := z.sub.out hp
  refine ho _ F _ ((z.up g).setS i (s := .md []) ⟨p, [], rfl, z.grow.hh.free hp, hf, upd_same, .nil⟩ fun _ j t b hj e1 o1 eb e2 => ?_)
  cases eb
  exact apart_new z hp j t e1 o1 e2
def slotM (i : Nat) (ρ : Env) : Option (List (List Key × D)) := match ρ[i]? with
  | some (some (.md xs)) => some xs
  | _ => none
theorem slotM_some {i : Nat} {ρ : Env} {xs : List (List Key × D)} (h : slotM i ρ = some xs) : ρ[i]? = some (some (.md xs)) := by
  unfold slotM at h
  split at h
  · rename_i q; cases h; exact q
  · cases h
def keyT : D → Option (List Key)
  | .tup (k0 :: ks) => keys? (k0 :: ks)
  | _ => none
theorem keyT_some {d : D} {k : List Key} (h : keyT d = some k) : ∃ k0 ks, d = .tup (k0 :: ks) ∧ keys? (k0 :: ks) = some k := by
  unfold keyT at h
  split at h
  · exact ⟨_, _, rfl, h⟩
  · cases h
abbrev sPutD (i : Nat) (fk fv : Env → R D) : Env → Option Out := fun ρ => withR (fv ρ) ρ fun d => (slotM i ρ).bind fun kvs => withR (fk ρ) ρ fun k => (keyT k).bind fun k => if kvs.length < 16777216 then some (.nx (ρ.set i (some (.md (putE kvs k d))))) else none
/-- d[k] = e, d a dict of one's own -/
theorem ds_putD (i : Nat) {x : Str} {p : Pos} {k : Expr} {fk fv : Env → R D} (hu : X.A.units + 1 < cLine) (hv : PE X (.Name x p) (tVar i)) (hk : DV X W k fk) (he : DV X W e fv) (hs : swapsWith e (some (.Subscript (.Name x p) k pos')) pos.line X.env = pure false := by rfl) :
    DS X W (.Assign [.Subscript (.Name x p) k pos'] e pos) (sPutD i fk fv) := (ps_dput hu hv hk he hs).weak fun D σ H ⟨F0, H0, ρ, F, o, z, e, ho⟩ =>
  tS_expr z e ho fun v d F1 H1 z1 g1 rd e => by
    obtain ⟨kvs, q, e⟩ := Option.bind_eq_some_iff.mp e
    have q := slotM_some q
    obtain ⟨w, e1, a, es, rfl, h0, hf, ha, rk⟩ := z1.slot i _ q
    refine ⟨_, e1, tS_expr z1 e ho fun kv kd F2 H2 z2 g2 rkd ee => ?_⟩
    obtain ⟨key, e2, e4⟩ := Option.bind_eq_some_iff.mp ee
    clear ee
    obtain ⟨k0, ks, ek, e3⟩ := keyT_some e2
    subst ek
    split at e4
    · rename_i hl
      cases e4
      obtain ⟨w', e1', a', es', ea, h0', hf', ha', rk'⟩ := z2.slot i _ q
      rw [e1] at e1'
      cases e1'
      cases ea
      have rkd : Rep X.K F2 kv (.tup (k0 :: ks)) := rkd
      cases rkd with
      | @tup b vs _ fb rl =>
        have nv := rl.ne
        have ev := rl.keys e3
        subst ev
        exact ⟨a, _, rfl, DPut.t ha' (z2.sub _ _ (fb.own nv)) (by rw [sizeLine_eq, rk'.len]; exact hl), ho σ F2 _ (z2.updOwn q rfl rfl e1 h0 hf' fun H' hH' => ⟨a, _, rfl, h0, hf', hH', rk'.put (Rep.mono rd g2.ff)⟩)⟩
    · cases e4
end
end DL
/-! DL16: an instance of one's own is read as data for a while; classes. -/
namespace DL
open PySem PySem.Spec PyProof.Rows L2

def era (F : Hp) (a : Addr) : Hp := fun b => if b = a then none else F b
theorem era_same {F : Hp} {a : Addr} : era F a a = none := by unfold era; rw [if_pos rfl]
theorem era_ne {F : Hp} {a b : Addr} (h : b ≠ a) : era F a b = F b := by unfold era; rw [if_neg h]
theorem era_some {F : Hp} {a b : Addr} {o : HO} (h : era F a b = some o) : b ≠ a ∧ F b = some o := by
  unfold era at h
  split at h
  · cases h
  · rename_i hb; exact ⟨hb, h⟩
mutual
/-- no instance in it -/
def noObj : D → Bool
  | .obj _ _ => false
  | .tup xs => noObjs xs
  | .lst xs => noObjs xs
  | .dct xs => noObjK xs
  | .dck _ => false
  | .dcx _ _ _ => false
  | _ => true
def noObjs : List D → Bool
  | [] => true
  | d :: ds => noObj d && noObjs ds
def noObjK : List (List Key × D) → Bool
  | [] => true
  | (_, d) :: ds => noObj d && noObjK ds
end
section
variable {K : KF} {F F' H H' : Hp} {a C dx : Addr} {es : List (Str × V)}
theorem Rd.out {o u : HO} {b : Addr} (hF : F a = some (.ins C dx es)) (h : Rd F b o) (ho : ∀ C dx es, o ≠ .ins C dx es) : Rd (era F a) b o := by
  have nb : b ≠ a := by
    rintro rfl
    rcases h with h | ⟨z, h⟩
    · rw [hF] at h; cases h; exact ho _ _ _ rfl
    · rw [hF] at h; cases h
  rcases h with h | ⟨z, h⟩
  · exact .inl (by rw [era_ne nb]; exact h)
  · exact .inr ⟨z, by rw [era_ne nb]; exact h⟩
mutual
theorem Rep.out (hF : F a = some (.ins C dx es)) : ∀ (d : D) (v : V), Rep K F v d → noObj d = true → Rep K (era F a) v d
  | .non, _, h, _ => by cases h; exact .non
  | .bl _, _, h, _ => by cases h; exact .bl _
  | .int _, _, h, _ => by cases h; exact .int _
  | .str _, _, h, _ => by cases h; exact .str _
  | .tup xs, _, h, n => by
    cases h with
    | tup e r => exact .tup (e.elim (fun e => .inl (by rw [era_ne (ne_of e hF (by intro z; cases z))]; exact e)) .inr) (RepL.out hF xs _ r (by simpa [noObj] using n))
  | .lst xs, _, h, n => by
    cases h with
    | lst e r => exact .lst (by rw [era_ne (ne_of e hF (by intro z; cases z))]; exact e) (RepL.out hF xs _ r (by simpa [noObj] using n))
  | .scr ns, _, h, _ => by
    cases h with
    | scr e =>
      rcases e with e | e
      · exact .scr (.inl (Rd.out (u := .lst []) hF e (by intro _ _ _ z; cases z)))
      · exact .scr (.inr e)
  | .dct kvs, _, h, n => by
    cases h with
    | dct e r => exact .dct (by rw [era_ne (ne_of e hF (by intro z; cases z))]; exact e) (RepK.out hF kvs _ r (by simpa [noObj] using n))
  | .obj _ _, _, _, n => by simp [noObj] at n
  | .dck _, _, _, n => by simp [noObj] at n
  | .dcx _ _ _, _, _, n => by simp [noObj] at n
  | .ptr _, _, h, _ => by cases h; exact .ptr
theorem RepL.out (hF : F a = some (.ins C dx es)) : ∀ (ds : List D) (vs : List V), RepL K F vs ds → noObjs ds = true → RepL K (era F a) vs ds
  | [], _, h, _ => by cases h; exact .nil
  | d :: ds, _, h, n => by
    simp only [noObjs, Bool.and_eq_true] at n
    cases h with | cons x y => exact .cons (Rep.out hF d _ x n.1) (RepL.out hF ds _ y n.2)
theorem RepK.out (hF : F a = some (.ins C dx es)) : ∀ (ds : List (List Key × D)) (vs : List (List Key × V)), RepK K F vs ds → noObjK ds = true → RepK K (era F a) vs ds
  | [], _, h, _ => by cases h; exact .nil
  | (k, d) :: ds, _, h, n => by
    simp only [noObjK, Bool.and_eq_true] at n
    cases h with | cons x y => exact .cons (Rep.out hF d _ x n.1) (RepK.out hF ds _ y n.2)
end
theorem Grow.out {o : HO} (hf : F a = none) (g : Grow (upd F a o) H F' H') : Grow F H (era F' a) H' where
  hh := g.hh
  ff := fun b u e => by
    have nb : b ≠ a := by rintro rfl; rw [hf] at e; cases e
    rw [era_ne nb]
    exact g.ff b u (by rw [upd_ne nb]; exact e)
  fh := fun b u e => g.fh b u (era_some e).2
  nn := fun x hx hfx => by
    by_cases q : x = a
    · subst q; exact era_same
    · rw [era_ne q]; exact g.nn x hx (by rw [upd_ne q]; exact hfx)
end
section
variable {X : Cx} {W : Wish} {e : Expr}
/-- with the instance at i read as data -/
abbrev eMelt (i : Nat) (f : Env → R D) : Env → R D := fun ρ => match ρ[i]? with
  | some (some (.ob _ n _ fs)) => (f (ρ.set i (some (.d (.obj n fs))))).bind fun d => if noObj d = true then .ok d else .stuck
  | _ => .stuck
abbrev lMelt (i : Nat) (f : Env → R (List D)) : Env → R (List D) := fun ρ => match ρ[i]? with
  | some (some (.ob _ n _ fs)) => (f (ρ.set i (some (.d (.obj n fs))))).bind fun d => if noObjs d = true then .ok d else .stuck
  | _ => .stuck
theorem dv_melt (i : Nat) {f : Env → R D} (h : DV X W e f) : DV X W e (eMelt i f) := h.weak fun σ H Q ⟨F0, H0, ρ, F, z, h⟩ => by
  have h : Post W (rV X.K) F H σ (match ρ[i]? with
    | some (some (.ob _ n _ fs)) => (f (ρ.set i (some (.d (.obj n fs))))).bind fun d => if noObj d = true then .ok d else .stuck
    | _ => .stuck) Q := h
  split at h
  · rename_i a0 n all fs q
    obtain ⟨v, e1, a, C, dx, es, rfl, h0, hf, ha, rf, c, ca, _⟩ := z.slot i _ q
    have z' := z.freezeAt q rfl e1 h0 hf ha (d := .obj n fs) (.obj upd_same ⟨c.at_, c.cls, fun f hf => c.no f (ca f hf)⟩ (rf.mono (Same.add hf)))
    refine ⟨F0, H0, _, _, z', ?_⟩
    cases qf : f (ρ.set i (some (.d (.obj n fs)))) with
    | stuck => rw [qf] at h; exact h
    | err c => rw [qf] at h; exact fun F' H' g => h _ H' (Grow.out hf g)
    | ok d =>
      rw [qf] at h
      have h : Post W (rV X.K) F H σ (if noObj d = true then .ok d else .stuck) Q := h
      split at h
      · rename_i no
        exact fun b F' H' g r => h b _ H' (Grow.out hf g) (Rep.out (g.ff _ _ upd_same) d b r no)
      · exact h.elim
  · exact h.elim
theorem df_melt (i : Nat) {f : Env → R (List D)} (h : DF X W e f) : DF X W e (lMelt i f) := h.weak fun σ H Q ⟨F0, H0, ρ, F, z, h⟩ => by
  have h : Post W (rF X.K) F H σ (match ρ[i]? with
    | some (some (.ob _ n _ fs)) => (f (ρ.set i (some (.d (.obj n fs))))).bind fun d => if noObjs d = true then .ok d else .stuck
    | _ => .stuck) Q := h
  split at h
  · rename_i a0 n all fs q
    obtain ⟨v, e1, a, C, dx, es, rfl, h0, hf, ha, rf, c, ca, _⟩ := z.slot i _ q
    have z' := z.freezeAt q rfl e1 h0 hf ha (d := .obj n fs) (.obj upd_same ⟨c.at_, c.cls, fun f hf => c.no f (ca f hf)⟩ (rf.mono (Same.add hf)))
    refine ⟨F0, H0, _, _, z', ?_⟩
    cases qf : f (ρ.set i (some (.d (.obj n fs)))) with
    | stuck => rw [qf] at h; exact h
    | err c => rw [qf] at h; exact fun F' H' g => h _ H' (Grow.out hf g)
    | ok d =>
      rw [qf] at h
      have h : Post W (rF X.K) F H σ (if noObjs d = true then .ok d else .stuck) Q := h
      split at h
      · rename_i no
        refine fun b F' H' g ⟨l, vs, e, hn, hfn, hl, r⟩ => h b _ H' (Grow.out hf g) ⟨l, vs, e, hn, ?_, hl, RepL.out (g.ff _ _ upd_same) d vs r no⟩
        by_cases q : l = a
        · subst q; exact era_same
        · rw [era_ne q]; exact hfn
      · exact h.elim
  · exact h.elim
end

/-! ### __init__ -/
def InitPost (K : KF) (mg : Str → Option Value) (n : Str) (all : List Str) (F H : Hp) (a : Addr) (Q : VK) (E : XK) : R (List (Str × D)) → Prop
  | .stuck => False
  | .err c => ∀ F' H' C, Grow F (era H a) F' H' → mg c = some (.ref C) → E (.ref C) none H'
  | .ok fs => ∀ F' H' C dx es, Grow F (era H a) F' H' → F' a = none → H' a = some (.ins C dx es) → RepF K F' es fs → IsCls K n C all → (∀ f ∈ fs.map (·.1), f ∈ all) → Q .non H'
/-- the promise of an __init__: data in, attributes out -/
def spI (K : KF) (mg : Str → Option Value) (n : Str) (all : List Str) (np : Nat) (m : List D → R (List (Str × D))) : Sp := fun vs H Q E => vs.length = np + 1 ∧ ∃ a C dx us ds F, vs = .ref a :: us ∧ H a = some (.ins C dx []) ∧ F a = none ∧ IsCls K n C all ∧ Same F H ∧ RepL K F us ds ∧ InitPost K mg n all F H a Q E (m ds)
def startI (N : Nat) (a : Addr) (n : Str) (all : List Str) (ds : List D) : Env := some (.ob a n all []) :: (ds.map (fun d => some (.d d)) ++ List.replicate (N - (ds.length + 1)) none)
def endI (a : Addr) (n : Str) (all : List Str) : Out → R (List (Str × D))
  | .nx ρ => match (ρ[(0 : Nat)]? : Option (Option S)) with
    | some (some (.ob a' n' all' fs)) => if a' = a ∧ n' = n ∧ all' = all then .ok fs else .stuck
    | _ => .stuck
  | .ex c _ => .err c
  | _ => .stuck
def coreI (N np : Nat) (n : Str) (all : List Str) (g : Env → Option Out) (a : Addr) (ds : List D) : R (List (Str × D)) := if ds.length = np then (R.of (g (startI N a n all ds))).bind (endI a n all) else .stuck
open Classical in
noncomputable def runI (N np : Nat) (n : Str) (all : List Str) (g : Env → Option Out) (ds : List D) : R (List (Str × D)) := if ∀ a, coreI N np n all g a ds = coreI N np n all g 0 ds then coreI N np n all g 0 ds else .stuck
theorem runI_eq {N np : Nat} {n : Str} {all : List Str} {g : Env → Option Out} {ds : List D} {r : R (List (Str × D))} (h : ∀ a, coreI N np n all g a ds = r) : runI N np n all g ds = r := by
  unfold runI
  rw [if_pos (fun a => by rw [h a, h 0])]
  exact h 0
theorem runI_core {N np : Nat} {n : Str} {all : List Str} {g : Env → Option Out} {ds : List D} (a : Addr) : runI N np n all g ds = .stuck ∨ runI N np n all g ds = coreI N np n all g a ds := by
  unfold runI
  split
  · rename_i h; exact .inr (h a).symm
  · exact .inl rfl

theorem sl_startI {K : KF} {F H : Hp} {N : List Str} {us : List V} {ds : List D} {a C dx : Addr} {n : Str} {all : List Str} (s : Same F H) (ha : H a = some (.ins C dx [])) (hf : F a = none) (c : IsCls K n C all) (r : RepL K F us ds) :
    SL K F (era H a) (startI N.length a n all ds) (L2.start N (.ref a :: us)) F H := by
  have s0 : Same (era H a) H := fun b u e => (era_some e).2
  refine ⟨⟨s0, Same.refl _, s, fun _ _ h => h⟩, by simp [startI, L2.start, r.len], fun i t e => ?_, fun i j t u b hij e1 e2 o1 o2 => ?_⟩
  · cases i with
    | zero =>
      cases e
      exact ⟨.ref a, rfl, a, C, dx, [], rfl, era_same, hf, ha, .nil, c, fun f h => by simp at h, rfl⟩
    | succ i =>
      have e : (ds.map (fun d => some (S.d d)) ++ List.replicate (N.length - (ds.length + 1)) none)[i]? = some (some t) := e
      by_cases hi : i < ds.length
      · rw [List.getElem?_append_left (by simpa using hi), List.getElem?_map] at e
        cases q : ds[i]? with
        | none => rw [q] at e; cases e
        | some d =>
          rw [q] at e
          cases e
          obtain ⟨v, hv, rv⟩ := r.get q
          refine ⟨v, ?_, rv⟩
          show ((V.ref a :: us).map some ++ List.replicate (N.length - (V.ref a :: us).length) none)[i + 1]? = some (some v)
          rw [List.getElem?_append_left (by simpa [r.len] using hi), List.map_cons, List.getElem?_cons_succ, List.getElem?_map, hv]; rfl
      · rw [List.getElem?_append_right (by simpa using hi), List.getElem?_replicate] at e
        split at e <;> cases e
  · have one : ∀ (i : Nat) (t : S), (startI N.length a n all ds)[i]? = some (some t) → t.own = true → i = 0 := fun i t e o => by
      cases i with
      | zero => rfl
      | succ i =>
        have e : (ds.map (fun d => some (S.d d)) ++ List.replicate (N.length - (ds.length + 1)) none)[i]? = some (some t) := e
        by_cases hi : i < ds.length
        · rw [List.getElem?_append_left (by simpa using hi), List.getElem?_map] at e
          cases q : ds[i]? with
          | none => rw [q] at e; cases e
          | some d => rw [q] at e; cases e; cases o
        · rw [List.getElem?_append_right (by simpa using hi), List.getElem?_replicate] at e
          split at e <;> cases e
    exact absurd ((one i t e1 o1).trans (one j u e2 o2).symm) hij
section
variable {P : Program} {w : World} {K : KF} {mg : Str → Option Value} {base : Heap}
/-- THE RULE for an __init__ -/
theorem init_ok {x qual : Str} {st : Stmt} {f : Addr} {fd : FuncData} {N ps : List Str} {k np : Nat} {n : Str} {all : List Str} {g : Env → Option Out} {dvs : List V} (F : FunD K x qual (defArgs st) (defBody st) (defScope st) dvs [] f fd) (Sc : FnScope N ps (defScope st)) (hn : ps.length = np + 1)
    (hbody : ∀ (cdv : Value) (A : Around) (outer : List PySem.Env) (s : Shared) (H : Hp) (E : XK), Room k (A.deeper (envOfC qual (defScope st) s.heap.objs.size f cdv)) →
      DSs (cxOf (L2.CX P w) P w K mg base N qual (defScope st) f cdv A outer s H E) (wish mg fun cls d _ H => E cls d H) (defBody st) g) :
    FnOk P w K mg base (L2.CX P w) (k + 1) f fd ps (spI K mg n all np (runI N.length np n all g)) := by
  refine FunD.ok F Sc (fun vs H Q E h => by rw [h.1, hn]) fun cdv A outer s H vs Q E hr h => ⟨_, hbody cdv A outer s H E hr, ?_⟩
  obtain ⟨hl, a, C, dx, us, ds, Fz, rfl, ha, hf, c, sm, r, hp⟩ := h
  rcases runI_core (N := N.length) (np := np) (n := n) (all := all) (g := g) (ds := ds) a with e | e
  · rw [e] at hp; exact hp.elim
  rw [e] at hp
  unfold coreI at hp
  have hl2 : ds.length = np := by rw [← r.len]; simpa using hl
  rw [if_pos hl2] at hp
  cases q : g (startI N.length a n all ds) with
  | none => rw [q] at hp; exact hp.elim
  | some o =>
    rw [q] at hp
    have hp : InitPost K mg n all Fz H a Q E (endI a n all o) := hp
    refine ⟨Fz, era H a, _, Fz, o, sl_startI sm ha hf c r, q, ?_⟩
    cases o with
    | nx ρ =>
      intro σ F1 H1 z
      have hp : InitPost K mg n all Fz H a Q E (match (ρ[(0 : Nat)]? : Option (Option S)) with
        | some (some (.ob a' n' all' fs)) => if a' = a ∧ n' = n ∧ all' = all then .ok fs else .stuck
        | _ => .stuck) := hp
      split at hp
      · rename_i a' n' all' fs q0
        split at hp
        · rename_i hh
          obtain ⟨rfl, rfl, rfl⟩ := hh
          obtain ⟨v, e1, a2, C2, dx2, es2, rfl, h02, hf2, hh2, rf, c2, ca2, rfl⟩ := z.slot 0 _ q0
          exact hp F1 H1 _ _ _ z.grow hf2 hh2 rf c2 ca2
        · exact hp.elim
      · exact hp.elim
    | rt r => exact hp.elim
    | bk ρ => exact hp.elim
    | ct ρ => exact hp.elim
    | ex c ρ => exact fun σ F1 H1 z C hC => hp F1 H1 C z.grow hC
end

/-! ### C(..) -/
def tMakeS (C : Addr) (sp : Sp) (E : L2.St → XK) (t : TA) : TE := fun σ H Q => t σ H fun vs H1 => ∀ x dx, H1 x = none → H1 dx = none → dx ≠ x → sp (.ref x :: vs) (upd (upd H1 dx (.own x)) x (.ins C dx [])) (fun v H2 => v = .non ∧ Q (.ref x) H2) (E σ)
section
variable {X : Cx} {CX : CXT} {k : Nat} {f C : Addr} {fd : FuncData} {ps : List Str} {sp : Sp} {E : L2.St → XK} {x : Str} {p pos : Pos} {e : Expr} {es : List Expr} {t : TA}
theorem run_makeS {pins : List (Addr × Obj)} {σ : L2.St} {H : Hp} {s : Shared} {Q : VK} {us : List Value} {vs : List V} (M : Mk X.K C f) (F : FnOk X.prog X.w X.K X.mg X.base CX k f fd ps sp) (hr : Room (k + 1) X.A) (hb : Binds X.K fd ps [])
    (hx : PassesAt CX X σ (E σ)) (I : Inv X pins σ H s) (r : Vals vs us)
    (h : ∀ x dx, H x = none → H dx = none → dx ≠ x → sp (.ref x :: vs) (upd (upd H dx (.own x)) x (.ins C dx [])) (fun v H2 => v = .non ∧ Q (.ref x) H2) (E σ)) :
    wpAny (model X.prog X.w) X.A (call (.ref C) us) (EP X pins σ Q) X.xe s := by
  have hq := h (s.heap.objs.size + 1) s.heap.objs.size (I.hok.fresh (Nat.le_succ _)) (I.hok.fresh (Nat.le_refl _)) (Nat.ne_of_lt (Nat.lt_succ_self _))
  have I2 := Inv.made (C := C) I
  have r2 : Vals (V.ref (s.heap.objs.size + 1) :: vs) (Value.ref (s.heap.objs.size + 1) :: us) := .cons rfl r
  have hl : (Value.ref (s.heap.objs.size + 1) :: us).length = ps.length := by
    have e := r2.length
    rw [F.len _ _ _ _ hq] at e
    exact e.symm
  have b := hb _ (Value.ref (s.heap.objs.size + 1) :: us) I2.kIn (by rw [List.append_nil]; exact hl)
  rw [List.append_nil] at b
  refine wpAny_call (make_map (f := f) I.kIn M.makes M.init (beq_iff_eq.mp M.fn) (codeAny_mono (F.run _ X.stack _ _ ⟨Value.ref (s.heap.objs.size + 1) :: us, []⟩ (Value.ref (s.heap.objs.size + 1) :: us) _ _ (E σ) (hr.make C us [])
    (I2.env0.make C us []) b r2 hq) fun r s' hq' => ?_))
  cases r with
  | error e => exact hx pins _ _ e s' I2 hq'
  | ok fl =>
    cases fl with
    | ret u =>
      obtain ⟨v, H', I3, rv, ev, q3⟩ := I2.after hq'
      subst ev
      exact ⟨rv, ⟨V.ref (s.heap.objs.size + 1), H', I3, rfl, q3⟩⟩
    | next => exact False.elim hq'
    | brk => exact False.elim hq'
    | cont => exact False.elim hq'
theorem pe_makeS (M : Mk X.K C f) (F : FnOk X.prog X.w X.K X.mg X.base CX k f fd ps sp) (hr : Room (k + 1) X.A) (hg : Gl X x) (hm : X.mg x = some (.ref C)) (hb : Binds X.K fd ps []) (hx : ∀ σ, PassesAt CX X σ (E σ))
    (ha : PA X (e :: es) t) (hdb : (x == ("__debug__" : Str)) = false := by decide) (he : starEach (e :: es) X.env = (false, eval e X.env) :: starEach es X.env := by rfl) (hpl : (backTo pos (starEach es X.env)).any (·.1) = false := by rfl) :
    PE X (.Call (.Name x p) (e :: es) [] pos) (tMakeS C sp E t) := by
  refine ⟨fun pins s σ H Q I h => ?_⟩
  refine wpAny_Call_Name_kw (ld_glob I hg hm ?_ hdb)
  refine PySem.W.callWith_K (h₀ := X.base) I.ok.mod.kin M.kp (thn (ha.run pos pins s σ H _ I h) fun us s1 ⟨vs, H1, I1, r, q⟩ => ⟨I1.kIn, ?_⟩) he hpl
  exact run_makeS M F hr hb (hx σ) I1 r q
end
/-- the class under the name n makes instances by the mirror m -/
def KeepsI (P : Program) (w : World) (K : KF) (mg : Str → Option Value) (base : Heap) (n : Str) (all : List Str) (k : Nat) (ps : List Str) (np : Nat) (m : List D → R (List (Str × D))) : Prop :=
  ∃ C f fd, mg n = some (.ref C) ∧ Mk K C f ∧ Binds K fd ps [] ∧ IsCls K n C all ∧ FnOk P w K mg base (L2.CX P w) k f fd ps (spI K mg n all np m)
/-- what stands of a class with an __init__ -/
def HasI (K : KF) (mg : Str → Option Value) (n : Str) (all : List Str) (st : Stmt) (ps : List Str) (qual : Str) : Prop := ∃ C f fd dvs, mg n = some (.ref C) ∧ Mk K C f ∧ Binds K fd ps [] ∧ IsCls K n C all ∧ FunD K "__init__" qual (defArgs st) (defBody st) (defScope st) dvs [] f fd
theorem keepsI_of {P : Program} {w : World} {K : KF} {mg : Str → Option Value} {base : Heap} {n qual : Str} {all : List Str} {st : Stmt} {N ps : List Str} {k np : Nat} {g : Env → Option Out} (h : HasI K mg n all st ps qual) (Sc : FnScope N ps (defScope st)) (hn : ps.length = np + 1)
    (hbody : ∀ (f : Addr) (cdv : Value) (A : Around) (outer : List PySem.Env) (s : Shared) (H : Hp) (E : XK), Room k (A.deeper (envOfC qual (defScope st) s.heap.objs.size f cdv)) →
      DSs (cxOf (L2.CX P w) P w K mg base N qual (defScope st) f cdv A outer s H E) (wish mg fun cls d _ H => E cls d H) (defBody st) g) :
    KeepsI P w K mg base n all (k + 1) ps np (runI N.length np n all g) := by
  obtain ⟨C, f, fd, dvs, h1, h2, h3, h4, h5⟩ := h
  exact ⟨C, f, fd, h1, h2, h3, h4, init_ok h5 Sc hn (hbody f)⟩
abbrev eMake (n : Str) (m : List D → R (List (Str × D))) (fs : Env → R (List D)) : Env → R D := fun ρ => (fs ρ).bind fun ds => (m ds).map (D.obj n)
section
variable {X : Cx} {W' : WX} {e : Expr} {es : List Expr} {fs : Env → R (List D)} {m : List D → R (List (Str × D))} {k np : Nat} {ps : List Str} {n : Str} {all : List Str} {p pos : Pos}
theorem dv_make (G : KeepsI X.prog X.w X.K X.mg X.base n all k ps np m) (hr : Room (k + 1) X.A) (tk : Takes X W') (hg : Gl X n)
    (ha : DA X (wish X.mg W') (e :: es) fs) (hfs : AL fs np) (hdb : (n == ("__debug__" : Str)) = false := by decide) (he : starEach (e :: es) X.env = (false, eval e X.env) :: starEach es X.env := by rfl) (hpl : (backTo pos (starEach es X.env)).any (·.1) = false := by rfl) :
    DV X (wish X.mg W') (.Call (.Name n p) (e :: es) [] pos) (eMake n m fs) := by
  obtain ⟨C, f, fd, h1, h2, h3, h4, h5⟩ := G
  refine (pe_makeS h2 h5 hr hg h1 h3 (fun σ => passAt tk σ) ha hdb he hpl).weak fun σ H Q ⟨F0, H0, ρ, F, z, h⟩ => ?_
  refine ⟨F0, H0, ρ, F, z, ?_⟩
  have h : Post (wish X.mg W') (rV X.K) F H σ ((fs ρ).bind fun ds => (m ds).map (D.obj n)) Q := h
  cases q : fs ρ with
  | stuck => rw [q] at h; exact h
  | err c => rw [q] at h; exact h
  | ok ds =>
    rw [q] at h
    intro vs F1 H1 g1 r1 x dx hx hdx ndx
    have h2 : Post (wish X.mg W') (rV X.K) F1 H1 σ ((m ds).map (D.obj n)) Q := Post.later rV_early g1 h
    have r1 : RepL X.K F1 vs ds := r1
    have nx : F1 x = none := g1.fh.out hx
    have ndx1 : F1 dx = none := g1.fh.out hdx
    have s1 : Same H1 (era (upd (upd H1 dx (.own x)) x (.ins C dx [])) x) := fun b u e => by
      have b1 : b ≠ x := fun q => by rw [q, hx] at e; cases e
      have b2 : b ≠ dx := fun q => by rw [q, hdx] at e; cases e
      rw [era_ne b1, upd_ne b1, upd_ne b2]; exact e
    refine ⟨by rw [List.length_cons, RepL.len r1, hfs ρ ds q], x, C, dx, vs, ds, F1, rfl, upd_same, nx, h4, fun b u e => ?_, r1, ?_⟩
    · have b1 : b ≠ x := fun q => by rw [q, nx] at e; cases e
      have b2 : b ≠ dx := fun q => by rw [q, ndx1] at e; cases e
      rw [upd_ne b1, upd_ne b2]; exact g1.fh b u e
    have up : ∀ {F' H' : Hp}, Grow F1 (era (upd (upd H1 dx (.own x)) x (.ins C dx [])) x) F' H' → Grow F1 H1 F' H' := fun g => ⟨s1.trans g.hh, g.ff, g.fh, fun b hb hf => g.nn b (fun q => hb (s1.free q)) hf⟩
    cases q2 : m ds with
    | stuck => rw [q2] at h2; exact h2
    | err c => rw [q2] at h2; exact fun F' H' C g hC => h2 F' H' (up g) C hC
    | ok fl =>
      rw [q2] at h2
      intro F' H' C' dx' es' g hF' hH' rf c' ca'
      refine ⟨rfl, h2 (.ref x) (upd F' x (.ins C' dx' es')) H' ?_ (.obj upd_same ⟨c'.at_, c'.cls, fun f hf => c'.no f (ca' f hf)⟩ (rf.mono (Same.add hF')))⟩
      have g := up g
      refine ⟨g.hh, g.ff.trans (Same.add hF'), fun b u e => ?_, fun b hb hf => ?_⟩
      · by_cases hb : b = x
        · subst hb; rw [upd_same] at e; cases e; exact hH'
        · rw [upd_ne hb] at e; exact g.fh b u e
      · rw [upd_ne (fun q => hb (by rw [q]; exact hx))]; exact g.nn b hb hf
end
end DL
/-! DL18: zip of three. -/
namespace DL
open PySem PySem.Spec PyProof.Rows L2

def Itz3 (K : KF) (b1 : Bool) (a1 : Addr) (b2 : Bool) (a2 : Addr) (b3 : Bool) (a3 : Addr) : It :=
  ⟨fun i H => ∃ (xs ys zs : List V) (x y z : V), SqG K H b1 a1 xs ∧ SqG K H b2 a2 ys ∧ SqG K H b3 a3 zs ∧ xs[i]? = some x ∧ ys[i]? = some y ∧ zs[i]? = some z,
    fun i H v H' => ∃ T x y z, v = .ref T ∧ H T = none ∧ H' = upd H T (.tup [x, y, z]) ∧ (∀ xs, SqG K H b1 a1 xs → xs[i]? = some x) ∧ (∀ ys, SqG K H b2 a2 ys → ys[i]? = some y) ∧ ∀ zs, SqG K H b3 a3 zs → zs[i]? = some z,
    fun i H => ∃ xs ys zs : List V, SqG K H b1 a1 xs ∧ SqG K H b2 a2 ys ∧ SqG K H b3 a3 zs ∧ i ≤ xs.length ∧ i ≤ ys.length ∧ i ≤ zs.length ∧ (i = xs.length ∨ i = ys.length ∨ i = zs.length)⟩
structure Far3 (z TI TO i1 i2 i3 a1 a2 a3 : Addr) : Prop where
  sep : ZipSep3 z TI TO i1 i2 i3 [i1, a1] [i2, a2] [i3, a3]
  a1i : a1 ≠ i1
  a2i : a2 ≠ i2
  a3i : a3 ≠ i3
theorem far3 (n a1 a2 a3 : Nat) (h1 : a1 < n) (h2 : a2 < n) (h3 : a3 < n) : Far3 (n + 5) (n + 3) (n + 4) n (n + 1) (n + 2) a1 a2 a3 :=
  ⟨zip_sep3 (fp1 := [a1]) (fp2 := [a2]) (fp3 := [a3]) (fun b hb => by rw [List.mem_singleton.mp hb]; exact h1) (fun b hb => by rw [List.mem_singleton.mp hb]; exact h2) (fun b hb => by rw [List.mem_singleton.mp hb]; exact h3), lt_ne h1, lt_ne (by omega), lt_ne (by omega)⟩
theorem turn_zip3 {P : Program} {w : World} {K : KF} {elts : List Expr} {kk : Nat} {tpos : Pos} {b1 b2 b3 : Bool} {a1 a2 a3 z TI TO i1 i2 i3 : Addr} (D : Far3 z TI TO i1 i2 i3 a1 a2 a3) :
    Turn P w K (.Tuple elts kk tpos) (Itz3 K b1 a1 b2 a2 b3 a3) [z, TI, TO, i1, i2, i3] z (fun i h => IsZip h z TI TO .none ∧ IsTupOf3 h TI (.ref i1) (.ref i2) (.ref i3) ∧ (∃ x y u, IsTupOf3 h TO x y u) ∧ ItG h b1 i1 a1 i ∧ ItG h b2 i2 a2 i ∧ ItG h b3 i3 a3 i) where
  mem := by simp
  obj := fun i h st c hc => by
    obtain ⟨hz, hTI, ⟨x, y, u, hTO⟩, h1, h2, h3⟩ := st
    have e' : c = z ∨ c = TI ∨ c = TO ∨ c = i1 ∨ c = i2 ∨ c = i3 := by simpa using hc
    rcases e' with rfl | rfl | rfl | rfl | rfl | rfl
    · exact ⟨_, hz, fun v q => nomatch q⟩
    · exact ⟨_, hTI, fun v q => nomatch q⟩
    · exact ⟨_, hTO, fun v q => nomatch q⟩
    · exact h1.obj
    · exact h2.obj
    · exact h3.obj
  keep := fun i h h' st k => by
    obtain ⟨hz, hTI, ⟨x, y, u, hTO⟩, h1, h2, h3⟩ := st
    exact ⟨k z (by simp) _ hz, k TI (by simp) _ hTI, ⟨x, y, u, k TO (by simp) _ hTO⟩, h1.at fun o q => k i1 (by simp) o q, h2.at fun o q => k i2 (by simp) o q, h3.at fun o q => k i3 (by simp) o q⟩
  item := by
    intro X hP hw hK hc i pins s σ H E I hf st hg
    subst hP hw hK
    obtain ⟨hz, hTI, ⟨x0, y0, u0, hTO⟩, h1, h2, h3⟩ := st
    obtain ⟨xs, ys, zs, x, y, zz, hqx, hqy, hqz, hx, hy, hzz⟩ := hg
    obtain ⟨its, rv, p⟩ := inv_G I hqx
    obtain ⟨its2, rv2, p2⟩ := inv_G I hqy
    obtain ⟨its3, rv3, p3⟩ := inv_G I hqz
    have l1 := rv.length
    have l2 := rv2.length
    have l3 := rv3.length
    have lx := (List.getElem?_eq_some_iff.mp hx).1
    have ly := (List.getElem?_eq_some_iff.mp hy).1
    have lz := (List.getElem?_eq_some_iff.mp hzz).1
    have hzl : z < s.heap.objs.size := Heap.lt_size hz
    have hh : X.A.in1.handled = none := by simpa using I.ok.hd hc
    refine wpAny_pyNext_zipD3_item D.sep (draws_G hh b1 i1 a1 D.a1i its.toArray) (draws_G hh b2 i2 a2 D.a2i its2.toArray) (draws_G hh b3 i3 a3 D.a3i its3.toArray) hz hTI hTO ⟨h1, p⟩ ⟨h2, p2⟩ ⟨h3, p3⟩ (by simp; omega) (by simp; omega) (by simp; omega) fun u u2 u3 h' tk hu hu2 hu3 z' TO' st1 st2 st3 hT hsz hk => ?_
    refine ⟨_, rfl, wpAny_letOwnedTupleGo_zip (s := { s with heap := h', toks := tk }) z' fun h'' z'' sb => ?_⟩
    obtain ⟨w1, hw1, ru⟩ := rv.get hx
    obtain ⟨w2, hw2, ru2⟩ := rv2.get hy
    obtain ⟨w3, hw3, ru3⟩ := rv3.get hzz
    have e1 : u = w1 := by
      have q : its[i]? = some u := by simpa using hu
      rw [hw1] at q; exact (Option.some.inj q).symm
    have e2 : u2 = w2 := by
      have q : its2[i]? = some u2 := by simpa using hu2
      rw [hw2] at q; exact (Option.some.inj q).symm
    have e3 : u3 = w3 := by
      have q : its3[i]? = some u3 := by simpa using hu3
      rw [hw3] at q; exact (Option.some.inj q).symm
    subst e1 e2 e3
    have hT2 : h''.get? s.heap.objs.size = some { cls := .type "tuple", data := .seq #[u, u2, u3] } := (sb.2 _ (Nat.ne_of_gt hzl)).trans hT
    have new : ObjOk X.prog X.w (upd H s.heap.objs.size (.tup [x, y, zz])) h'' s.heap.objs.size (.tup [x, y, zz]) :=
      ⟨by rw [sizeLine_eq]; show 3 ≤ 16777216; decide, [u, u2, u3], .cons ru (.cons ru2 (.cons ru3 .nil)), ⟨_, hT2, rfl, _, rfl⟩⟩
    have I1 : Inv X pins σ (upd H s.heap.objs.size (.tup [x, y, zz])) { s with heap := h'', toks := tk } :=
      I.turnedNew (t' := tk) (ch := [z, TI, TO, i1, i2, i3]) (fun c o hb q => (sb.2 c (fun q' => hb (by simp [q']))).trans (hk c o (fun q' => hb (by simp [q'])) (fun q' => hb (by simp [q'])) (fun q' => hb (by simp [q'])) (fun q' => hb (by simp [q'])) (fun q' => hb (by simp [q'])) q)) hf (Nat.le_refl _) new
    refine ⟨.ref s.heap.objs.size, _, I1, rfl, ⟨_, x, y, zz, rfl, I.hok.fresh (Nat.le_refl _), rfl, fun l hl => by rw [inv_G_inj I hl hqx]; exact hx, fun l hl => by rw [inv_G_inj I hl hqy]; exact hy, fun l hl => by rw [inv_G_inj I hl hqz]; exact hzz⟩, ⟨z'', ?_, ⟨u, u2, u3, ?_⟩, ?_, ?_, ?_⟩, fun c hcm => ?_⟩
    · exact (sb.2 _ D.sep.TIz).trans (hk _ _ D.sep.TIz D.sep.TITO D.sep.TIi1 D.sep.TIi2 D.sep.TIi3 hTI)
    · exact (sb.2 _ D.sep.TOz).trans TO'
    · exact st1.1.at fun o q => (sb.2 _ (Ne.symm D.sep.zi1)).trans q
    · exact st2.1.at fun o q => (sb.2 _ (Ne.symm D.sep.zi2)).trans q
    · exact st3.1.at fun o q => (sb.2 _ (Ne.symm D.sep.zi3)).trans q
    · have hlt : c < s.heap.objs.size := by
        have e' : c = z ∨ c = TI ∨ c = TO ∨ c = i1 ∨ c = i2 ∨ c = i3 := by simpa using hcm
        rcases e' with rfl | rfl | rfl | rfl | rfl | rfl
        · exact hzl
        · exact Heap.lt_size hTI
        · exact Heap.lt_size hTO
        · obtain ⟨_, e1, _⟩ := h1.obj; exact Heap.lt_size e1
        · obtain ⟨_, e2, _⟩ := h2.obj; exact Heap.lt_size e2
        · obtain ⟨_, e3, _⟩ := h3.obj; exact Heap.lt_size e3
      rw [upd_ne (Nat.ne_of_lt hlt)]
      exact (hf c hcm).1
  done := by
    intro X hP hw hK hc i pins s σ H E I hf st hg
    subst hP hw hK
    obtain ⟨hz, hTI, ⟨x0, y0, u0, hTO⟩, h1, h2, h3⟩ := st
    obtain ⟨xs, ys, zs, hqx, hqy, hqz, le1, le2, le3, hend⟩ := hg
    obtain ⟨its, rv, p⟩ := inv_G I hqx
    obtain ⟨its2, rv2, p2⟩ := inv_G I hqy
    obtain ⟨its3, rv3, p3⟩ := inv_G I hqz
    have l1 := rv.length
    have l2 := rv2.length
    have l3 := rv3.length
    have hh : X.A.in1.handled = none := by simpa using I.ok.hd hc
    refine wpAny_pyNext_zipD3_end D.sep (draws_G hh b1 i1 a1 D.a1i its.toArray) (draws_G hh b2 i2 a2 D.a2i its2.toArray) (draws_G hh b3 i3 a3 D.a3i its3.toArray) hz hTI hTO ⟨h1, p⟩ ⟨h2, p2⟩ ⟨h3, p3⟩ (by simp; omega) (by simp; omega) (by simp; omega) (by simp; omega) fun h' tk hk => ?_
    exact ⟨rfl, I.turnedL (t' := tk) (ch := [z, TI, TO, i1, i2, i3]) (fun c o hb q =>
      hk c o (fun q' => hb (by simp [q'])) (fun q' => hb (by simp [q'])) (fun q' => hb (by simp [q'])) (fun q' => hb (by simp [q'])) (fun q' => hb (by simp [q'])) q) hf⟩
  self := fun A i s Q E st h => wpAny_pyIter_zip st.1 h
abbrev YTri (f g h : Nat → Option V) : Nat → Hp → V → Hp → Prop := fun i H v H' => ∃ T x y z, v = .ref T ∧ H T = none ∧ H' = upd H T (.tup [x, y, z]) ∧ f i = some x ∧ g i = some y ∧ h i = some z
theorem walk_zip3 {K : KF} {b1 b2 b3 : Bool} {a1 a2 a3 : Addr} {xs ys zs : List V} {n : Nat} (hn : n = min xs.length (min ys.length zs.length)) : Walk (Itz3 K b1 a1 b2 a2 b3 a3) n (fun H => SqG K H b1 a1 xs ∧ SqG K H b2 a2 ys ∧ SqG K H b3 a3 zs) (YTri (fun i => xs[i]?) (fun i => ys[i]?) (fun i => zs[i]?)) := by
  subst hn
  refine ⟨fun i _ hi q => ?_, fun _ q => ⟨xs, ys, zs, q.1, q.2.1, q.2.2, by omega, by omega, by omega, by omega⟩, fun i H v H' _ q y => ?_⟩
  · have h1 : i < xs.length := by omega
    have h2 : i < ys.length := by omega
    have h3 : i < zs.length := by omega
    exact ⟨xs, ys, zs, xs[i], ys[i], zs[i], q.1, q.2.1, q.2.2, by simp [h1], by simp [h2], by simp [h3]⟩
  · obtain ⟨T, x, z, u, h1, h2, h3, h4, h5, h6⟩ := y
    exact ⟨T, x, z, u, h1, h2, h3, h4 xs q.1, h5 ys q.2.1, h6 zs q.2.2⟩
def iZ3 (K : KF) (ta : TA) : TI := fun σ H R => ta σ H fun vs H1 => ∃ b1 a1 b2 a2 b3 a3 xs ys zs, vs = [.ref a1, .ref a2, .ref a3] ∧ SqG K H1 b1 a1 xs ∧ SqG K H1 b2 a2 ys ∧ SqG K H1 b3 a3 zs ∧ R (Itz3 K b1 a1 b2 a2 b3 a3) H1
theorem pi_zip3 {X : Cx} {e e2 e3 : Expr} {ta : TA} {p pos tpos : Pos} {elts : List Expr} {kk : Nat} (hg : Gl X "zip") (hm : X.mg "zip" = none) (ha : PA X [e, e2, e3] ta)
    (hs : starEach [e, e2, e3] X.env = (false, eval e X.env) :: starEach [e2, e3] X.env := by rfl) (hpl : (backTo pos (starEach [e2, e3] X.env)).any (·.1) = false := by rfl) :
    PI X (.Tuple elts kk tpos) (.Call (.Name "zip" p) [e, e2, e3] [] pos) (iZ3 X.K ta) := by
  refine ⟨fun pins s σ H R I h => ?_⟩
  refine Call_ (ld_blt I hg hm PyProof.Rows.boot_zip (PyProof.Rows.callWith_type1 (thn (ha.run pos pins s σ H _ I h) fun us s1 ⟨vs, H1, I1, r1, q1⟩ => ?_) hs hpl))
  obtain ⟨b1, a1, b2, a2, b3, a3, xs, ys, zs, ex, hqx, hqy, hqz, q⟩ := q1
  subst ex
  cases r1 with
  | cons r rr =>
    cases rr with
    | cons r' rr =>
      cases rr with
      | cons r'' rr =>
        cases rr
        cases r
        cases r'
        cases r''
        obtain ⟨its, rv, p1⟩ := inv_G I1 hqx
        obtain ⟨its2, rv2, p2⟩ := inv_G I1 hqy
        obtain ⟨its3, rv3, p3⟩ := inv_G I1 hqz
        refine zip_begins3 (begins_G b1 a1 its.toArray) (begins_G b2 a2 its2.toArray) (begins_G b3 a3 its3.toArray) p1 p2 p3 fun h' hz hTI hTO h1 h2 h3 hsz hk => wpAny_pyIter_zip hz ?_
        have I2 : Inv X pins σ H1 { s1 with heap := h' } := I1.kept (t' := s1.toks) hk
        refine ⟨s1.heap.objs.size + 5, [s1.heap.objs.size + 5, s1.heap.objs.size + 3, s1.heap.objs.size + 4, s1.heap.objs.size, s1.heap.objs.size + 1, s1.heap.objs.size + 2], _, _, H1, rfl, I2, turn_zip3 (far3 s1.heap.objs.size a1 a2 a3 p1.lt p2.lt p3.lt), ⟨hz, hTI, ⟨_, _, _, hTO⟩, ItG.new h1, ItG.new h2, ItG.new h3⟩, fun c hcm => ?_, q⟩
        have e' : c = s1.heap.objs.size + 5 ∨ c = s1.heap.objs.size + 3 ∨ c = s1.heap.objs.size + 4 ∨ c = s1.heap.objs.size ∨ c = s1.heap.objs.size + 1 ∨ c = s1.heap.objs.size + 2 := by simpa using hcm
        have hle : s1.heap.objs.size ≤ c := by
          rcases e' with z | z | z | z | z | z
          · rw [z]; exact Nat.le_add_right _ _
          · rw [z]; exact Nat.le_add_right _ _
          · rw [z]; exact Nat.le_add_right _ _
          · rw [z]; exact Nat.le_refl _
          · rw [z]; exact Nat.le_add_right _ _
          · rw [z]; exact Nat.le_add_right _ _
        exact I1.fpOk hle (I1.hok.fresh hle)
def zip3 : List D → List D → List D → List D
  | x :: xs, y :: ys, z :: zs => .tup [x, y, z] :: zip3 xs ys zs
  | _, _, _ => []
def oZip3 (x y z : D) : Option (List D) := (oSeq x).bind fun p => (oSeq y).bind fun q => (oSeq z).map fun r => zip3 p.2 q.2 r.2
abbrev iZip3 (a b c : Env → R D) : Env → R (List D) := fun ρ => (a ρ).bind fun x => (b ρ).bind fun y => (c ρ).bind fun z => R.of (oZip3 x y z)
theorem zip3_len : ∀ (xs ys zs : List D), (zip3 xs ys zs).length = min xs.length (min ys.length zs.length)
  | [], _, _ => by simp [zip3]
  | _ :: _, [], _ => by simp [zip3]
  | _ :: _, _ :: _, [] => by simp [zip3]
  | x :: xs, y :: ys, z :: zs => by
    simp only [zip3, List.length_cons, zip3_len xs ys zs]
    omega
theorem zip3_at : ∀ {xs ys zs : List D} {i : Nat} {x y z : D}, xs[i]? = some x → ys[i]? = some y → zs[i]? = some z → (zip3 xs ys zs)[i]? = some (.tup [x, y, z])
  | [], _, _, _, _, _, _, h, _, _ => by simp at h
  | _ :: _, [], _, _, _, _, _, _, h, _ => by simp at h
  | _ :: _, _ :: _, [], _, _, _, _, _, _, h => by simp at h
  | x :: xs, y :: ys, z :: zs, 0, _, _, _, h, h', h'' => by simp at h h' h''; simp [zip3, h, h', h'']
  | x :: xs, y :: ys, z :: zs, i + 1, _, _, _, h, h', h'' => by
    simp only [List.getElem?_cons_succ] at h h' h''
    simp only [zip3, List.getElem?_cons_succ]
    exact zip3_at h h' h''
theorem itok_zip3 {K : KF} {F : Hp} {b1 b2 b3 : Bool} {a1 a2 a3 : Addr} {vs us ws : List V} {xs ys zs : List D} (h1 : SqG K F b1 a1 vs) (h2 : SqG K F b2 a2 us) (h3 : SqG K F b3 a3 ws) (r1 : RepL K F vs xs) (r2 : RepL K F us ys) (r3 : RepL K F ws zs) : ItOk K (Itz3 K b1 a1 b2 a2 b3 a3) F (zip3 xs ys zs) :=
  ⟨_, _, walk_zip3 (xs := vs) (ys := us) (zs := ws) (by rw [zip3_len, r1.len, r2.len, r3.len]), fun F' H s1 s2 => ⟨SqG.up s2 (SqG.up s1 h1), SqG.up s2 (SqG.up s1 h2), SqG.up s2 (SqG.up s1 h3)⟩, fun i F' H x H' s1 s2 hi y => by
    obtain ⟨T, x1, x2, x3, rfl, hT, rfl, e1, e2, e3⟩ := y
    obtain ⟨d1, f1, q1⟩ := r1.getV e1
    obtain ⟨d2, f2, q2⟩ := r2.getV e2
    obtain ⟨d3, f3, q3⟩ := r3.getV e3
    have up : Same F' (upd F' T (.tup [x1, x2, x3])) := Same.add (s2.out hT)
    exact ⟨.tup [d1, d2, d3], _, zip3_at f1 f2 f3, Grow.new s2 hT, .tup (.of upd_same) (.cons ((q1.mono s1).mono up) (.cons ((q2.mono s1).mono up) (.cons ((q3.mono s1).mono up) .nil)))⟩⟩
section
variable {X : Cx} {W : Wish} {a b c : Expr} {fa fb fc : Env → R D} {pos p tpos : Pos} {elts : List Expr} {kk : Nat}
theorem di_zip3 (hg : Gl X "zip") (hm : X.mg "zip" = none) (ha : DV X W a fa) (hb : DV X W b fb) (hc : DV X W c fc) (h1 : starEach (a :: [b, c]) X.env = (false, eval a X.env) :: starEach [b, c] X.env := by rfl) (h2 : starEach (b :: [c]) X.env = (false, eval b X.env) :: starEach [c] X.env := by rfl) (h3 : starEach (c :: []) X.env = (false, eval c X.env) :: starEach [] X.env := by rfl)
    (hpl : (backTo pos (starEach [b, c] X.env)).any (·.1) = false := by rfl) :
    DI X W (.Tuple elts kk tpos) (.Call (.Name "zip" p) [a, b, c] [] pos) (iZip3 fa fb fc) :=
  (pi_zip3 hg hm (pa_cons ha (pa_cons hb (pa_cons hc pa_nil h3) h2) h1) h1 hpl).weak fun σ H Q ⟨F0, H0, ρ, F, z, h⟩ => post_bind z rI_early h fun F1 H1 v x z1 g1 r1 h => post_bind z1 rI_early h fun F2 H2 u y z2 g2 r2 h => post_bind z2 rI_early h fun F3 H3 u' y' z3 g3 r3 h => by
    obtain ⟨items, e, hF⟩ := post_of h
    unfold oZip3 at e
    obtain ⟨⟨b1, xs⟩, e1, e2⟩ := Option.bind_eq_some_iff.mp e
    obtain ⟨⟨b2, ys⟩, e3, e4⟩ := Option.bind_eq_some_iff.mp e2
    obtain ⟨⟨b3, zs⟩, e5, e6⟩ := Option.map_eq_some_iff.mp e4
    subst e6
    obtain ⟨a1, vs1, rfl, f1, q1⟩ := rep_sq r1 e1
    obtain ⟨a2, vs2, rfl, f2, q2⟩ := rep_sq r2 e3
    obtain ⟨a3, vs3, rfl, f3, q3⟩ := rep_sq r3 e5
    have s1 : Same F1 F3 := g2.ff.trans g3.ff
    have s2 : Same F2 F3 := g3.ff
    exact ⟨b1, a1, b2, a2, b3, a3, vs1, vs2, vs3, rfl, SqG.up z3.sub (SqG.up s1 f1), SqG.up z3.sub (SqG.up s2 f2), SqG.up z3.sub f3, hF _ _ _ (Grow.refl z3.sub) (itok_zip3 (SqG.up s1 f1) (SqG.up s2 f2) f3 (q1.mono s1) (q2.mono s2) q3)⟩
end
end DL
/-! DL19: reversed slices, extend, isinstance against own classes. -/
namespace DL
open PySem PySem.Spec PyProof.Rows L2

theorem RepL.rev {K : KF} {F : Hp} : ∀ {vs : List V} {xs : List D}, RepL K F vs xs → RepL K F vs.reverse xs.reverse
  | _, _, .nil => .nil
  | _, _, .cons a t => by rw [List.reverse_cons, List.reverse_cons]; exact (RepL.rev t).app (.cons a .nil)
def oRev : D → Option (List D)
  | .lst xs => some xs.reverse
  | _ => none
section
variable {X : Cx} {W : Wish} {a : Expr} {fa : Env → R D} {pos p1 p2 p3 : Pos} {k : Nat}
theorem df_rev (ha : DB X W a fa) : DF X W (.Subscript a (.Slice none none (some (.UnaryOp .USub (.Constant (.int 1) k p1) p2)) p3) pos) (fun ρ => (fa ρ).bind fun x => R.of (oRev x)) :=
  (pe_revL ha).weak fun σ H Q ⟨F0, H0, ρ, F, z, h⟩ => post_bind z rF_early h fun F1 H1 v x z1 g1 r1 h => by
    obtain ⟨d, e, hF⟩ := post_of h
    unfold oRev at e
    split at e
    · cases e
      obtain ⟨p, vs, rfl, f, q⟩ := r1.lst' z1.sub
      exact ⟨p, vs, rfl, SqL.of f, fun l hl => fin_own z1.sub hF hl q.rev⟩
    · cases e
end

/-! ### xs.extend(ys), ys a list or a tuple -/
theorem list_extend_tupW (l : Addr) (items : Array Value) (n : Nat) (b : Addr) (items2 : Array Value) (n2 : Nat) (dd : Option Addr) (sl : Array (Option Value)) (hs0 : ¬(!items.isEmpty && Builtin.List.listTooLong (items.size + items2.size)) = true) (hs1 : items.size ≤ sizeLine) (hs2 : items.size + items2.size ≤ sizeLine + 1) :
    Meets (Builtin.«list.extend» ⟨[.ref l, .ref b], []⟩) (fun _ R s => s.heap.get? l = some { cls := .type "list", dict := none, data := .seq items n, slots := #[] } ∧ s.heap.get? b = some { cls := .type "tuple", dict := dd, data := .seq items2 n2, slots := sl } ∧ R (.ok (.ret Value.none)) { s with heap := s.heap.update l (Obj.mapSeq fun x => x ++ items2), toks := s.toks }) :=
  .of_wp fun prog w A R s h => by
    obtain ⟨hp, g, d, tk, os⟩ := s; obtain ⟨hl, hb, h⟩ := h; have f1 := AutoSeq1.idx_int; have f2 := AutoSeq1.sub_tuple_tuple; have f3 := AutoSeq1.sub_list_list; have f4 := AutoSeq1.sub_tuple_list; have f5 := AutoSeq1.sub_list_tuple;
    have hz' : (items ++ items2).size ≤ sizeLine + 1 := by rw [Array.size_append]; exact hs2
    wp_walk using (wpAny_updateSeq hl rfl (hz := hs1) (_hz' := hz')), wpAny_loadPart' hl, wpAny_loadPart' hb; exact ⟨_, rfl, h⟩
def rExtG (K : KF) : V → List V → Hp → VK → Prop := fun x vs H Q => ∃ l b xs zs, x = .ref l ∧ vs = [.ref b] ∧ H l = some (.lst xs) ∧ (H b = some (.lst zs) ∨ TupAt K H b zs) ∧ xs.length + zs.length ≤ sizeLine ∧ Q .non (upd H l (.lst (xs ++ zs)))
theorem mt_extG {X : Cx} : MtM X "list.extend" (rExtG X.K) := by
  intro pins s σ H x vs v us Q I rx rv h
  obtain ⟨l, b, xs, zs, rfl, rfl, hH, hB | hB | ⟨rfl, hB⟩, hz, q⟩ := h
  · exact mt_extend pins s σ H _ _ v us Q I rx rv ⟨l, b, xs, zs, rfl, rfl, hH, hB, hz, q⟩
  cases rx
  obtain ⟨u, rfl, ru⟩ := rv.one
  cases ru
  obtain ⟨z, its, n, r, hl, e⟩ := I.lstM hH
  obtain ⟨z2, its2, r2, o, h1, h2, n2, h3⟩ := (show ObjOk X.prog X.w H s.heap b (.tup zs) from I.hok b _ hB)
  obtain ⟨oc, od, dt, sl⟩ := o
  simp only at h2 h3
  subst h2 h3
  have l2 := r2.length
  have hsz : its.toArray.size + its2.toArray.size ≤ sizeLine := by rw [List.size_toArray, List.size_toArray]; omega
  have hlong : ¬ (!its.toArray.isEmpty && Builtin.List.listTooLong (its.toArray.size + its2.toArray.size)) = true := by
    rw [notLongL hsz, Bool.and_false]
    exact Bool.false_ne_true
  refine call_meets F.slot_list_extend ⟨_, e, rfl⟩ F.entry_list_extend (F.args_list_extend_2 _ _)
    (list_extend_tupW l its.toArray n b its2.toArray n2 od sl hlong (by rw [List.size_toArray]; omega) (by omega)) ⟨e, h1, ?_⟩
  refine ⟨.non, _, I.lset (its' := its ++ its2) hH e (by simp) (r.append r2) ?_, rfl, q⟩
  rw [List.length_append]
  omega
  cases rx
  obtain ⟨u, rfl, ru⟩ := rv.one
  cases ru
  obtain ⟨z, its, n, r, hl, e⟩ := I.lstM hH
  obtain ⟨o, its2, n2, h1, h2, h3, h4, h5⟩ := hB
  have h1 := I.kIn _ _ h1
  obtain ⟨oc, od, dt, sl⟩ := o
  simp only at h2 h3
  subst h2 h3
  have l2 : its2.toList.length = 0 := h5.length.symm
  have hsz : its.toArray.size + its2.size ≤ sizeLine := by rw [List.size_toArray]; rw [Array.length_toList] at l2; simp only [List.length_nil] at hz; omega
  have hlong : ¬ (!its.toArray.isEmpty && Builtin.List.listTooLong (its.toArray.size + its2.size)) = true := by
    rw [notLongL hsz, Bool.and_false]
    exact Bool.false_ne_true
  refine call_meets F.slot_list_extend ⟨_, e, rfl⟩ F.entry_list_extend (F.args_list_extend_2 _ _)
    (list_extend_tupW l its.toArray n b its2 n2 od sl hlong (by rw [List.size_toArray]; omega) (by omega)) ⟨e, h1, ?_⟩
  rw [List.append_nil] at q
  have e0 : its2 = #[] := by
    apply Array.eq_empty_of_size_eq_zero
    rw [← Array.length_toList]; exact l2
  subst e0
  refine ⟨.non, _, I.lset (its' := its) hH e (by simp) r (by simp only [List.length_nil] at hz; omega), rfl, q⟩
section
variable {X : Cx} {W : Wish} {e : Expr} {pos : Pos}
abbrev sExt (i : Nat) (f : Env → R D) : Env → Option Out := fun ρ => (slotL i ρ).bind fun xs => withR (f ρ) ρ fun d => (rowOf d).bind fun ys => if xs.length + ys.length ≤ 16777216 then some (.nx (ρ.set i (some (.ml (xs ++ ys))))) else none
theorem ds_extend (i : Nat) {x : Str} {p apos cpos : Pos} {f : Env → R D} (hv : PE X (.Name x p) (tVar i)) (he : DV X W e f)
    (hst : starEach (e :: []) X.env = (false, eval e X.env) :: starEach [] X.env := by rfl)
    (hbase : attributeBase (.Name x p) "extend" X.env (eval (.Name x p) X.env) = eval (.Name x p) X.env := by rfl)
    (hfew : ((backTo cpos (starEach (e :: []) X.env)).all (fun x => !x.1) && (backToKw cpos (keywordEach [] X.env)).all (fun x => x.1.isSome)
      && decide ((e :: []).length + ([] : List Keyword).length + (if ([] : List Keyword).isEmpty then 0 else 1) < 30)) = true := by rfl)
    (hline : (apos.endLine == cpos.line) = true := by rfl) (hplain : (backTo cpos (starEach [] X.env)).any (·.1) = false := by rfl)
    (hs : swapsWith (.Call (.Attribute (.Name x p) "extend" apos) [e] [] cpos) none pos.line X.env = pure false := by rfl) :
    DS X W (.Expr (.Call (.Attribute (.Name x p) "extend" apos) [e] [] cpos) pos) (sExt i f) :=
  (ps_expr (pe_bm PySem.F.plainAttrs_list PySem.F.slot_list_extend PySem.F.type_list_extend mt_extG hv (pa_cons he pa_nil hst) hbase hfew hline hst hplain) hs).weak fun D σ H ⟨F0, H0, ρ, F, o, z, e, ho⟩ => by
    obtain ⟨xs, q, e⟩ := Option.bind_eq_some_iff.mp e
    have q := slotL_some q
    obtain ⟨v, e1, a, vs, rfl, h0, hf, hh, r⟩ := z.slot i _ q
    refine ⟨_, e1, .inl ⟨rfl, vs, SqL.of hh⟩, tS_expr z e ho fun w d F1 H1 z1 g1 rw ee => ?_⟩
    obtain ⟨v', e1', a', vs', ea, h0', hf', hh', r'⟩ := z1.slot i _ q
    rw [e1] at e1'
    cases e1'
    cases ea
    obtain ⟨ys, er, e4⟩ := Option.bind_eq_some_iff.mp ee
    clear ee
    split at e4
    · rename_i hl
      cases e4
      have rw : Rep X.K F1 w d := rw
      cases rw with
      | @lst b us ds fb rl =>
        cases er
        exact ⟨a, b, vs', us, rfl, rfl, hh', .inl (z1.sub _ _ fb), by rw [sizeLine_eq, r'.len, rl.len]; exact hl, ho σ F1 _ (z1.updL q e1 (r'.app rl))⟩
      | @tup b us ds fb rl =>
        cases er
        exact ⟨a, b, vs', us, rfl, rfl, hh', .inr (fb.up z1.sub), by rw [sizeLine_eq, r'.len, rl.len]; exact hl, ho σ F1 _ (z1.updL q e1 (r'.app rl))⟩
      | _ => cases er
    · cases e4
end

/-! ### isinstance(x, C), C an own class -/
/-- what of the text a class must have for isinstance -/
structure Inst (K : KF) (C : Addr) : Prop where
  ha : PySem.W.findIn K (.ref C) "__class__" = some (some (.builtin "object.__class__"))
  hn : PySem.W.specialIn K (.builtin "object.__class__") "__get__" = some (some (.builtin "getset_descriptor.__get__"))
  htk : PySem.W.takesIn K (.builtin "object.__class__") = some true
  hm : PySem.W.mroIn K C (.type "object") = some true
def IsOwn (K : KF) (mg : Str → Option Value) (n : Str) : Prop := ∃ C, mg n = some (.ref C) ∧ PySem.W.nsIn K mainGlobals n = some (some (.ref C)) ∧ Inst K C
def isO (n : Str) : D → Option Bool
  | .obj m _ => if m = n then some true else none
  | _ => none
abbrev eIsO (n : Str) (a : Env → R D) : Env → R D := fun ρ => (a ρ).bind fun x => R.of ((isO n x).map .bl)
section
variable {X : Cx} {W : Wish} {a : Expr} {fa : Env → R D} {pos p p2 : Pos} {n : Str}
theorem dv_isO (hg : Gl X "isinstance") (hm : X.mg "isinstance" = none) (O : IsOwn X.K X.mg n) (hgn : Gl X n) (ha : DB X W a fa) (hdb : (n == ("__debug__" : Str)) = false := by decide)
    (he : starEach (a :: [.Name n p2]) X.env = (false, eval a X.env) :: starEach [.Name n p2] X.env := by rfl) (he2 : starEach (.Name n p2 :: []) X.env = (false, eval (.Name n p2) X.env) :: starEach [] X.env := by rfl) (hpl : (backTo pos (starEach [.Name n p2] X.env)).any (·.1) = false := by rfl) :
    DV X W (.Call (.Name "isinstance" p) [a, .Name n p2] [] pos) (eIsO n fa) := by
  obtain ⟨C, h1, h2, h3⟩ := O
  have hT : PE X (.Name n p2) (tC (.ref C)) := pe_glob hgn h1 rfl hdb
  refine (pe_callB call_isi hg hm (by decide +kernel) (pa_cons ha (pa_cons hT pa_nil he2) he) (by decide) (by decide) he hpl).weak fun σ H Q ⟨F0, H0, ρ, F, z, h⟩ => post_bind z rV_early h fun F1 H1 v x z1 g1 r1 h => ?_
  obtain ⟨d, e, hF⟩ := post_of h
  obtain ⟨b, e1, e2⟩ := Option.map_eq_some_iff.mp e
  subst e2
  unfold isO at e1
  split at e1
  · split at e1
    · rename_i m fs hmn
      cases e1
      subst hmn
      obtain ⟨a, C', dx, es, rfl, f, c, q⟩ := r1.obj z1.sub
      have ec : C' = C := by
        have := c.at_
        rw [h2] at this
        cases this
        rfl
      subst ec
      exact ⟨.ref a, .ref C', .ref C', .ref C', true, rfl, .own C', .base (.ins f c.cls h3.ha h3.hn h3.htk h3.hm), by unfold PySem.W.kitOne; rw [if_pos (by exact beq_self_eq_true _)], hF _ _ _ (Grow.refl z1.sub) (.bl _)⟩
    · cases e1
  · cases e1
end
def oNeg : D → Option D
  | .int i => some (.int (-i))
  | _ => none
theorem dv_neg {X : Cx} {W : Wish} {a : Expr} {fa : Env → R D} {pos : Pos} (ha : DB X W a fa) : DV X W (.UnaryOp .USub a pos) (fun ρ => (fa ρ).bind fun x => R.of (oNeg x)) :=
  (pe_un un_neg ha).weak fun σ H Q ⟨F0, H0, ρ, F, z, h⟩ => post_bind z rV_early h fun F1 H1 v x z1 g1 r1 h => by
    obtain ⟨k, e, hQ⟩ := post_of h
    unfold oNeg at e
    split at e
    · cases e
      exact ⟨_, r1.int, hQ _ _ _ (Grow.refl z1.sub) (.int _)⟩
    · cases e
end DL
/-! DL17: the law's end. -/
namespace DL
open PySem PySem.Spec PyProof.Rows L2

theorem fun_D {K : KF} {x qual : Str} {st : Stmt} {f : Addr} {fd : FuncData} (F : FunD K x qual (defArgs st) (defBody st) (defScope st) [] [] f fd) : Fun K x qual st f fd := by
  obtain ⟨oc, od, dV, kV, doc, pm, an, cdv, ct, osl, e, lk, hcd, hD, hK⟩ := F.ex
  rcases hD with ⟨_, rfl⟩ | ⟨z, _⟩
  · exact ⟨⟨oc, od, kV, doc, pm, an, cdv, ct, osl, e, lk, hcd⟩, F.kp⟩
  · exact absurd rfl z
theorem has_def {K : KF} {mg : Str → Option Value} {x : Str} {st : Stmt} {ps : List Str} {f : Addr} {fd : FuncData} (hm : mg x = some (.ref f)) (F : FunD K x x (defArgs st) (defBody st) (defScope st) [] [] f fd)
    (hb : ∀ (kV doc pm : Value) (an : Option Addr) (cdv ct : Value) (us : List Value), us.length = ps.length → bindArgs (PySem.W.fnOf x x (defArgs st) (defBody st) (defScope st) .none kV doc pm an cdv ct) ⟨us, []⟩ = pure (ps.zip us)) : Has K mg x st ps :=
  ⟨f, fd, hm, fun_D F, F.bindsN hb⟩
theorem hasI_def {K : KF} {mg : Str → Option Value} {n qual : Str} {all : List Str} {st : Stmt} {ps : List Str} {C f : Addr} {fd : FuncData} (hm : mg n = some (.ref C)) (M : Mk K C f) (at_ : PySem.W.nsIn K mainGlobals n = some (some (.ref C))) (cls : Cls K C) (no : ∀ f, f ∈ all → NoAttr K C f)
    (F : FunD K "__init__" qual (defArgs st) (defBody st) (defScope st) [] [] f fd)
    (hb : ∀ (kV doc pm : Value) (an : Option Addr) (cdv ct : Value) (us : List Value), us.length = ps.length → bindArgs (PySem.W.fnOf "__init__" qual (defArgs st) (defBody st) (defScope st) .none kV doc pm an cdv ct) ⟨us, []⟩ = pure (ps.zip us)) : HasI K mg n all st ps qual :=
  ⟨C, f, fd, [], hm, M, F.bindsN hb, ⟨at_, cls, no⟩, F⟩
/-- .. with one default, all arguments given -/
theorem hasI_def1 {K : KF} {mg : Str → Option Value} {n qual : Str} {all : List Str} {st : Stmt} {ps : List Str} {C f : Addr} {fd : FuncData} {dv : V} (hm : mg n = some (.ref C)) (M : Mk K C f) (at_ : PySem.W.nsIn K mainGlobals n = some (some (.ref C))) (cls : Cls K C) (no : ∀ f, f ∈ all → NoAttr K C f)
    (F : FunD K "__init__" qual (defArgs st) (defBody st) (defScope st) [dv] [] f fd)
    (hb : ∀ (T : Addr) (kV doc pm : Value) (an : Option Addr) (cdv ct : Value) (us its : List Value), us.length = ps.length → its.length = 1 →
      ∃ k, bindArgs (PySem.W.fnOf "__init__" qual (defArgs st) (defBody st) (defScope st) (.ref T) kV doc pm an cdv ct) ⟨us, []⟩ = seqItems? (.ref T) >>= k ∧ k (some its.toArray) = pure (ps.zip (us ++ its.drop 1))) : HasI K mg n all st ps qual := by
  obtain ⟨ds, h1, h2⟩ := FunD.binds1 (ps := ps) F ps.length 1 (List.cons_ne_nil _ _) (by simp) hb
  have e : ds = [] := by cases h1; rfl
  subst e
  exact ⟨C, f, fd, [dv], hm, M, h2, ⟨at_, cls, no⟩, F⟩
/-! ### the head's facts, and more of them -/
def hookX (n : Nat) (fa : List He.Fa) (fn : List He.DefD) (ex : KF → Bool) : PySem.W.Hook where
  α := He.AlD × Bool
  obs := fun s => (He.obsDG n fa fn s.heap.get?, ex (He.frG s.heap.get? (He.asD s.heap.get? n)))
  val := fun _ => (He.valD fn, true)
  says := fun _ h => ∃ K : KF, K.In h ∧ He.SaysD fa fn K ∧ ex K = true
  of := fun _ _ e => ⟨_, He.frG_in, congrArg Prod.fst e, congrArg Prod.snd e⟩
  keeps := fun _ _ _ ⟨K, hK, c⟩ k => ⟨K, PySem.W.Frag.In.keeps hK k, c⟩
def obsX (n : Nat) (fa : List He.Fa) (fn : List He.DefD) (ex : KF → Bool) (g : Addr → Option Obj) : He.AlD × Bool := (He.obsDG n fa fn g, ex (He.frG g (He.asD g n)))
theorem obsX_eq {n : Nat} {fa : List He.Fa} {fn : List He.DefD} {ex : KF → Bool} {g : Addr → Option Obj} {s : Shared} (h : ∀ a, g a = s.heap.get? a) : obsX n fa fn ex g = (hookX n fa fn ex).obs s := by
  have e : g = s.heap.get? := funext h
  rw [e]
  rfl
def instB (K : KF) (x : Str) : Bool := He.eqO (PySem.W.findIn K (.ref (He.ga K x)) "__class__") (some (some (.builtin "object.__class__"))) && (He.eqO (PySem.W.specialIn K (.builtin "object.__class__") "__get__") (some (some (.builtin "getset_descriptor.__get__"))) &&
  (decide (PySem.W.takesIn K (.builtin "object.__class__") = some true) && decide (PySem.W.mroIn K (He.ga K x) (.type "object") = some true)))
theorem inst_ok {K : KF} {x : Str} (h : instB K x = true) : Inst K (He.ga K x) := by
  obtain ⟨h1, h⟩ := He.ba h
  obtain ⟨h2, h⟩ := He.ba h
  obtain ⟨h3, h4⟩ := He.ba h
  exact ⟨He.eqO_ok h1, He.eqO_ok h2, of_decide_eq_true h3, of_decide_eq_true h4⟩
/-- a law: F gives the written part, the function object, the promise over every base -/
theorem walk_ofX {l : PySem.W.OpenLaw} {n k : Nat} {q : Program} {loose : List Str} {XP : (Str → Option Value) → Heap → Prop} {YP : World → Heap → Prop} {d : DefRec} {CX : World → CXT} {x : Str}
    (hn : l.most = some n) (hn2 : n ≤ sizeLine) (hdf : d.params.defaults = []) (hr : Room k callerA)
    (F : ∀ (w : World) (mg : Str → Option Value) (fa : Addr) (h : Heap), YP w h → h.Ns mainGlobals mg → mg d.name = some (.ref fa) →
      ∃ (K : PySem.W.Frag) (fd : FuncData) (sp : Sp), K.In h ∧ (∀ (s : Shared) (u : Value), BindsTo s fd ⟨[u], []⟩ [(x, u)]) ∧
        (∀ (H : Hp) (a : Addr) (ns : List Int), ns.length ≤ n → Only H → SqL K H a (ns.map V.int) → sp [.ref a] H (fun v _ => v = .bl true) fun _ _ _ => False) ∧
        ∀ base : Heap, K.In base → base.Ns mainGlobals mg → FnOk l.prog w K mg base (CX w) k fa fd [x] sp)
    (hCX : ∀ (w : World) (H : Hp) (s : Shared) (e : Value) (s' : Shared), CX w [] H s (fun _ _ _ => False) e s' → False) :
    PySem.W.WalkO q loose XP YP l.row.toRowW d [] (fun f vs => PySem.call f vs) := by
  refine Att.attach_call hn hdf fun w s₀ s₁ mg mb fa o pm cd doc a vs ns G Y ho hd hcd hmg hobj hints hlen hg => ?_
  obtain ⟨K, fd, sp, KX, hb, hsp, hF⟩ := F w mg fa _ Y G.T.g hmg
  exact law_call KX G.T.g G.T.b G.T.builtins G.T.nolimit hg hobj hints (Nat.le_trans hlen hn2) hr hF hb (fun H hO hS => hsp H a ns hlen hO hS) fun H e s' => hCX w H s₁ e s'
theorem cx_none {P : Program} {w : World} {H : Hp} {s s' : Shared} {e : Value} (h : L2.CX P w [] H s (fun _ _ _ => False) e s') : False := by
  obtain ⟨_, _, _, _, _, _, _, _, _, _, _, _, z⟩ := h
  exact z
theorem spD_law {K : KF} {mg : Str → Option Value} {m : List D → R Ret} {H : Hp} {a : Addr} {ns : List Int} (h : m [.scr ns] = .ok (.val (.bl true))) (hS : SqL K H a (ns.map V.int)) : spD K mg 1 m [.ref a] H (fun v _ => v = .bl true) fun _ _ _ => False := by
  refine ⟨rfl, H, [.scr ns], Same.refl _, .cons (.scr hS) .nil, ?_⟩
  rw [h]
  intro v F' H' g r
  cases r
  rfl
end DL
/-! DL20: C(..) whose last parameter is left to its default, the empty tuple. -/
namespace DL
open PySem PySem.Spec PyProof.Rows L2

section
variable {X : Cx} {CX : CXT} {k : Nat} {f C : Addr} {fd : FuncData} {ps : List Str} {sp : Sp} {E : L2.St → XK} {x : Str} {p pos : Pos} {e : Expr} {es : List Expr} {t : TA}
def tMakeD (C : Addr) (a : Addr) (sp : Sp) (E : L2.St → XK) (t : TA) : TE := fun σ H Q => t σ H fun vs H1 => ∀ x dx, H1 x = none → H1 dx = none → dx ≠ x → sp ((.ref x :: vs) ++ [.ref a]) (upd (upd H1 dx (.own x)) x (.ins C dx [])) (fun v H2 => v = .non ∧ Q (.ref x) H2) (E σ)
theorem run_makeD {a : Addr} {pins : List (Addr × Obj)} {σ : L2.St} {H : Hp} {s : Shared} {Q : VK} {us : List Value} {vs : List V} (M : Mk X.K C f) (F : FnOk X.prog X.w X.K X.mg X.base CX k f fd ps sp) (hr : Room (k + 1) X.A) (hb : Binds X.K fd ps [.ref a])
    (hx : PassesAt CX X σ (E σ)) (I : Inv X pins σ H s) (r : Vals vs us)
    (h : ∀ x dx, H x = none → H dx = none → dx ≠ x → sp ((.ref x :: vs) ++ [.ref a]) (upd (upd H dx (.own x)) x (.ins C dx [])) (fun v H2 => v = .non ∧ Q (.ref x) H2) (E σ)) :
    wpAny (model X.prog X.w) X.A (call (.ref C) us) (EP X pins σ Q) X.xe s := by
  have hq := h (s.heap.objs.size + 1) s.heap.objs.size (I.hok.fresh (Nat.le_succ _)) (I.hok.fresh (Nat.le_refl _)) (Nat.ne_of_lt (Nat.lt_succ_self _))
  have I2 := Inv.made (C := C) I
  have r2 : Vals (V.ref (s.heap.objs.size + 1) :: vs) (Value.ref (s.heap.objs.size + 1) :: us) := .cons rfl r
  have r3 : Vals ((V.ref (s.heap.objs.size + 1) :: vs) ++ [V.ref a]) ((Value.ref (s.heap.objs.size + 1) :: us) ++ [Value.ref a]) := r2.append (.cons rfl .nil)
  have hl : ((Value.ref (s.heap.objs.size + 1) :: us) ++ [Value.ref a]).length = ps.length := by
    have e := r3.length
    rw [F.len _ _ _ _ hq] at e
    exact e.symm
  have b := hb _ (Value.ref (s.heap.objs.size + 1) :: us) I2.kIn hl
  refine wpAny_call (make_map (f := f) I.kIn M.makes M.init (beq_iff_eq.mp M.fn) (codeAny_mono (F.run _ X.stack _ _ ⟨Value.ref (s.heap.objs.size + 1) :: us, []⟩ ((Value.ref (s.heap.objs.size + 1) :: us) ++ [Value.ref a]) _ _ (E σ) (hr.make C us [])
    (I2.env0.make C us []) b r3 hq) fun r s' hq' => ?_))
  cases r with
  | error e => exact hx pins _ _ e s' I2 hq'
  | ok fl =>
    cases fl with
    | ret u =>
      obtain ⟨v, H', I3, rv, ev, q3⟩ := I2.after hq'
      subst ev
      exact ⟨rv, ⟨V.ref (s.heap.objs.size + 1), H', I3, rfl, q3⟩⟩
    | next => exact False.elim hq'
    | brk => exact False.elim hq'
    | cont => exact False.elim hq'
theorem pe_makeD {a : Addr} (M : Mk X.K C f) (F : FnOk X.prog X.w X.K X.mg X.base CX k f fd ps sp) (hr : Room (k + 1) X.A) (hg : Gl X x) (hm : X.mg x = some (.ref C)) (hb : Binds X.K fd ps [.ref a]) (hx : ∀ σ, PassesAt CX X σ (E σ))
    (ha : PA X (e :: es) t) (hdb : (x == ("__debug__" : Str)) = false := by decide) (he : starEach (e :: es) X.env = (false, eval e X.env) :: starEach es X.env := by rfl) (hpl : (backTo pos (starEach es X.env)).any (·.1) = false := by rfl) :
    PE X (.Call (.Name x p) (e :: es) [] pos) (tMakeD C a sp E t) := by
  refine ⟨fun pins s σ H Q I h => ?_⟩
  refine wpAny_Call_Name_kw (ld_glob I hg hm ?_ hdb)
  refine PySem.W.callWith_K (h₀ := X.base) I.ok.mod.kin M.kp (thn (ha.run pos pins s σ H _ I h) fun us s1 ⟨vs, H1, I1, r, q⟩ => ⟨I1.kIn, ?_⟩) he hpl
  exact run_makeD M F hr hb (hx σ) I1 r q
end
/-- .. and of a class whose last parameter has the empty tuple for its default -/
def KeepsID (P : Program) (w : World) (K : KF) (mg : Str → Option Value) (base : Heap) (n : Str) (all : List Str) (k : Nat) (ps : List Str) (np : Nat) (m : List D → R (List (Str × D))) : Prop :=
  ∃ C f fd a, mg n = some (.ref C) ∧ Mk K C f ∧ Binds K fd ps [.ref a] ∧ KNil K a ∧ IsCls K n C all ∧ FnOk P w K mg base (L2.CX P w) k f fd ps (spI K mg n all np m)
def HasID (K : KF) (mg : Str → Option Value) (n : Str) (all : List Str) (st : Stmt) (ps : List Str) (qual : Str) : Prop := ∃ C f fd a dvs, mg n = some (.ref C) ∧ Mk K C f ∧ Binds K fd ps [.ref a] ∧ KNil K a ∧ IsCls K n C all ∧ FunD K "__init__" qual (defArgs st) (defBody st) (defScope st) dvs [] f fd
theorem keepsID_of {P : Program} {w : World} {K : KF} {mg : Str → Option Value} {base : Heap} {n qual : Str} {all : List Str} {st : Stmt} {N ps : List Str} {k np : Nat} {g : Env → Option Out} (h : HasID K mg n all st ps qual) (Sc : FnScope N ps (defScope st)) (hn : ps.length = np + 1)
    (hbody : ∀ (f : Addr) (cdv : Value) (A : Around) (outer : List PySem.Env) (s : Shared) (H : Hp) (E : XK), Room k (A.deeper (envOfC qual (defScope st) s.heap.objs.size f cdv)) →
      DSs (cxOf (L2.CX P w) P w K mg base N qual (defScope st) f cdv A outer s H E) (wish mg fun cls d _ H => E cls d H) (defBody st) g) :
    KeepsID P w K mg base n all (k + 1) ps np (runI N.length np n all g) := by
  obtain ⟨C, f, fd, a, dvs, h1, h2, h3, kn, h4, h5⟩ := h
  exact ⟨C, f, fd, a, h1, h2, h3, kn, h4, init_ok h5 Sc hn (hbody f)⟩
abbrev eMakeD (n : Str) (m : List D → R (List (Str × D))) (fs : Env → R (List D)) : Env → R D := fun ρ => (fs ρ).bind fun ds => (m (ds ++ [.tup []])).map (D.obj n)
section
variable {X : Cx} {W' : WX} {e : Expr} {es : List Expr} {fs : Env → R (List D)} {m : List D → R (List (Str × D))} {k np : Nat} {ps : List Str} {n : Str} {all : List Str} {p pos : Pos}
theorem dv_makeD (G : KeepsID X.prog X.w X.K X.mg X.base n all k ps (np + 1) m) (hr : Room (k + 1) X.A) (tk : Takes X W') (hg : Gl X n)
    (ha : DA X (wish X.mg W') (e :: es) fs) (hfs : AL fs np) (hdb : (n == ("__debug__" : Str)) = false := by decide) (he : starEach (e :: es) X.env = (false, eval e X.env) :: starEach es X.env := by rfl) (hpl : (backTo pos (starEach es X.env)).any (·.1) = false := by rfl) :
    DV X (wish X.mg W') (.Call (.Name n p) (e :: es) [] pos) (eMakeD n m fs) := by
  obtain ⟨C, f, fd, a, h1, h2, h3, kn, h4, h5⟩ := G
  refine (pe_makeD h2 h5 hr hg h1 h3 (fun σ => passAt tk σ) ha hdb he hpl).weak fun σ H Q ⟨F0, H0, ρ, F, z, h⟩ => ?_
  refine ⟨F0, H0, ρ, F, z, ?_⟩
  have h : Post (wish X.mg W') (rV X.K) F H σ ((fs ρ).bind fun ds => (m (ds ++ [.tup []])).map (D.obj n)) Q := h
  cases q : fs ρ with
  | stuck => rw [q] at h; exact h
  | err c => rw [q] at h; exact h
  | ok ds =>
    rw [q] at h
    intro vs F1 H1 g1 r1 x dx hx hdx ndx
    have h2 : Post (wish X.mg W') (rV X.K) F1 H1 σ ((m (ds ++ [.tup []])).map (D.obj n)) Q := Post.later rV_early g1 h
    have r1 : RepL X.K F1 vs ds := r1
    have r2 : RepL X.K F1 (vs ++ [.ref a]) (ds ++ [.tup []]) := r1.app (.cons (.tup (.inr ⟨rfl, kn⟩) .nil) .nil)
    have nx : F1 x = none := g1.fh.out hx
    have ndx1 : F1 dx = none := g1.fh.out hdx
    have s1 : Same H1 (era (upd (upd H1 dx (.own x)) x (.ins C dx [])) x) := fun b u e => by
      have b1 : b ≠ x := fun q => by rw [q, hx] at e; cases e
      have b2 : b ≠ dx := fun q => by rw [q, hdx] at e; cases e
      rw [era_ne b1, upd_ne b1, upd_ne b2]; exact e
    refine ⟨by rw [List.cons_append, List.length_cons, RepL.len r2, List.length_append, hfs ρ ds q]; rfl, x, C, dx, vs ++ [.ref a], ds ++ [.tup []], F1, rfl, upd_same, nx, h4, fun b u e => ?_, r2, ?_⟩
    · have b1 : b ≠ x := fun q => by rw [q, nx] at e; cases e
      have b2 : b ≠ dx := fun q => by rw [q, ndx1] at e; cases e
      rw [upd_ne b1, upd_ne b2]; exact g1.fh b u e
    have up : ∀ {F' H' : Hp}, Grow F1 (era (upd (upd H1 dx (.own x)) x (.ins C dx [])) x) F' H' → Grow F1 H1 F' H' := fun g => ⟨s1.trans g.hh, g.ff, g.fh, fun b hb hf => g.nn b (fun q => hb (s1.free q)) hf⟩
    cases q2 : m (ds ++ [.tup []]) with
    | stuck => rw [q2] at h2; exact h2
    | err c => rw [q2] at h2; exact fun F' H' C g hC => h2 F' H' (up g) C hC
    | ok fl =>
      rw [q2] at h2
      intro F' H' C' dx' es' g hF' hH' rf c' ca'
      refine ⟨rfl, h2 (.ref x) (upd F' x (.ins C' dx' es')) H' ?_ (.obj upd_same ⟨c'.at_, c'.cls, fun f hf => c'.no f (ca' f hf)⟩ (rf.mono (Same.add hF')))⟩
      have g := up g
      refine ⟨g.hh, g.ff.trans (Same.add hF'), fun b u e => ?_, fun b hb hf => ?_⟩
      · by_cases hb : b = x
        · subst hb; rw [upd_same] at e; cases e; exact hH'
        · rw [upd_ne hb] at e; exact g.fh b u e
      · rw [upd_ne (fun q => hb (by rw [q]; exact hx))]; exact g.nn b hb hf
end
/-- the default of the class's __init__ is K's empty tuple -/
def knilB (K : KF) (a : Addr) : Bool := match List.lookup a K with
  | some o => decide (o.cls = Value.type "tuple") && (match o.data with | .seq its _ => its.isEmpty | _ => false)
  | none => false
theorem knil_ok {K : KF} {a : Addr} (h : knilB K a = true) : KNil K a := by
  unfold knilB at h
  split at h
  · rename_i o q
    obtain ⟨h1, h2⟩ := He.ba h
    split at h2
    · rename_i its n q2
      have e : its = #[] := by simpa using h2
      subst e
      exact ⟨o, #[], n, q, of_decide_eq_true h1, q2, Nat.zero_le _, .nil⟩
    · cases h2
  · cases h
theorem hasID_def1 {K : KF} {mg : Str → Option Value} {n qual : Str} {all : List Str} {st : Stmt} {ps : List Str} {C f a : Addr} {fd : FuncData} (hm : mg n = some (.ref C)) (M : Mk K C f) (at_ : PySem.W.nsIn K mainGlobals n = some (some (.ref C))) (cls : Cls K C) (no : ∀ f, f ∈ all → NoAttr K C f)
    (F : FunD K "__init__" qual (defArgs st) (defBody st) (defScope st) [.ref a] [] f fd) (kn : KNil K a) (hp : 1 ≤ ps.length)
    (hb : ∀ (T : Addr) (kV doc pm : Value) (an : Option Addr) (cdv ct : Value) (us its : List Value), us.length = ps.length - 1 → its.length = 1 →
      ∃ k, bindArgs (PySem.W.fnOf "__init__" qual (defArgs st) (defBody st) (defScope st) (.ref T) kV doc pm an cdv ct) ⟨us, []⟩ = seqItems? (.ref T) >>= k ∧ k (some its.toArray) = pure (ps.zip (us ++ its.drop 0))) : HasID K mg n all st ps qual := by
  obtain ⟨ds, h1, h2⟩ := FunD.binds1 (ps := ps) F (ps.length - 1) 0 (List.cons_ne_nil _ _) (by show ps.length - 1 + 1 = ps.length; omega) hb
  have e : ds = [.ref a] := by
    cases h1 with
    | cons q t => cases t; cases q; rfl
  subst e
  exact ⟨C, f, fd, a, [.ref a], hm, M, h2, kn, ⟨at_, cls, no⟩, F⟩
end DL
namespace K09H
open PySem PySem.Spec PyProof.Rows L2
def top (i : Nat) : Stmt := PySem.Challenge.pw_piecetold_k09_whole_one_deed_for_all.main.body.getD i (.Pass ⟨0, 0, 0, 0⟩)
def d_is_row : He.DefD := ⟨("is_row", none), "is_row", "is_row", defArgs (top 17), defBody (top 17), defScope (top 17), [], []⟩
def d_is_row_of : He.DefD := ⟨("is_row_of", none), "is_row_of", "is_row_of", defArgs (top 18), defBody (top 18), defScope (top 18), [], []⟩
def d_is_integer : He.DefD := ⟨("is_integer", none), "is_integer", "is_integer", defArgs (top 19), defBody (top 19), defScope (top 19), [], []⟩
def d_is_index : He.DefD := ⟨("is_index", none), "is_index", "is_index", defArgs (top 20), defBody (top 20), defScope (top 20), [], []⟩
def d_is_word : He.DefD := ⟨("is_word", none), "is_word", "is_word", defArgs (top 21), defBody (top 21), defScope (top 21), [], []⟩
def d_is_ascending : He.DefD := ⟨("is_ascending", none), "is_ascending", "is_ascending", defArgs (top 22), defBody (top 22), defScope (top 22), [], []⟩
def d_demand : He.DefD := ⟨("demand", none), "demand", "demand", defArgs (top 23), defBody (top 23), defScope (top 23), [], []⟩
def d_words_from : He.DefD := ⟨("words_from", none), "words_from", "words_from", defArgs (top 24), defBody (top 24), defScope (top 24), [], []⟩
def d_channels_from : He.DefD := ⟨("channels_from", none), "channels_from", "channels_from", defArgs (top 25), defBody (top 25), defScope (top 25), [], []⟩
def d_states_from : He.DefD := ⟨("states_from", none), "states_from", "states_from", defArgs (top 26), defBody (top 26), defScope (top 26), [], []⟩
def d_sources_from : He.DefD := ⟨("sources_from", none), "sources_from", "sources_from", defArgs (top 27), defBody (top 27), defScope (top 27), [], []⟩
def d_output_from : He.DefD := ⟨("output_from", none), "output_from", "output_from", defArgs (top 28), defBody (top 28), defScope (top 28), [], []⟩
def d_outputs_from : He.DefD := ⟨("outputs_from", none), "outputs_from", "outputs_from", defArgs (top 29), defBody (top 29), defScope (top 29), [], []⟩
def d_rule_from : He.DefD := ⟨("rule_from", none), "rule_from", "rule_from", defArgs (top 30), defBody (top 30), defScope (top 30), [], []⟩
def d_table_from : He.DefD := ⟨("table_from", none), "table_from", "table_from", defArgs (top 31), defBody (top 31), defScope (top 31), [], []⟩
def d_situations_of : He.DefD := ⟨("situations_of", none), "situations_of", "situations_of", defArgs (top 32), defBody (top 32), defScope (top 32), [], []⟩
def d_positions_among : He.DefD := ⟨("positions_among", none), "positions_among", "positions_among", defArgs (top 33), defBody (top 33), defScope (top 33), [], []⟩
def d_candidates_at : He.DefD := ⟨("candidates_at", none), "candidates_at", "candidates_at", defArgs (top 34), defBody (top 34), defScope (top 34), [], []⟩
def d_signals_of : He.DefD := ⟨("signals_of", none), "signals_of", "signals_of", defArgs (top 35), defBody (top 35), defScope (top 35), [], []⟩
def d_position_of : He.DefD := ⟨("position_of", none), "position_of", "position_of", defArgs (top 37), defBody (top 37), defScope (top 37), [], []⟩
def d_candidates_of : He.DefD := ⟨("candidates_of", none), "candidates_of", "candidates_of", defArgs (top 38), defBody (top 38), defScope (top 38), [], []⟩
def d_step : He.DefD := ⟨("step", none), "step", "step", defArgs (top 39), defBody (top 39), defScope (top 39), [], []⟩
def d_names_of : He.DefD := ⟨("names_of", none), "names_of", "names_of", defArgs (top 43), defBody (top 43), defScope (top 43), [], []⟩
def d_is_configuration : He.DefD := ⟨("is_configuration", none), "is_configuration", "is_configuration", defArgs (top 44), defBody (top 44), defScope (top 44), [], []⟩
def d_is_beginning : He.DefD := ⟨("is_beginning", none), "is_beginning", "is_beginning", defArgs (top 45), defBody (top 45), defScope (top 45), [], []⟩
def d_is_message : He.DefD := ⟨("is_message", none), "is_message", "is_message", defArgs (top 46), defBody (top 46), defScope (top 46), [], []⟩
def d_is_input : He.DefD := ⟨("is_input", none), "is_input", "is_input", defArgs (top 47), defBody (top 47), defScope (top 47), [], []⟩
def d_heard_by : He.DefD := ⟨("heard_by", none), "heard_by", "heard_by", defArgs (top 48), defBody (top 48), defScope (top 48), [], []⟩
def d_messages_on : He.DefD := ⟨("messages_on", none), "messages_on", "messages_on", defArgs (top 49), defBody (top 49), defScope (top 49), [], []⟩
def d_chain_step : He.DefD := ⟨("chain_step", none), "chain_step", "chain_step", defArgs (top 50), defBody (top 50), defScope (top 50), [], []⟩
def d_deed_from : He.DefD := ⟨("deed_from", none), "deed_from", "deed_from", defArgs (top 51), defBody (top 51), defScope (top 51), [], []⟩
def d_tuples_of : He.DefD := ⟨("tuples_of", none), "tuples_of", "tuples_of", defArgs (top 54), defBody (top 54), defScope (top 54), [], []⟩
def d_integers_in : He.DefD := ⟨("integers_in", none), "integers_in", "integers_in", defArgs (top 55), defBody (top 55), defScope (top 55), [], []⟩
def d_ranks_of : He.DefD := ⟨("ranks_of", none), "ranks_of", "ranks_of", defArgs (top 56), defBody (top 56), defScope (top 56), [], []⟩
def d_beginning_with : He.DefD := ⟨("beginning_with", none), "beginning_with", "beginning_with", defArgs (top 57), defBody (top 57), defScope (top 57), [], []⟩
def d_messages_with : He.DefD := ⟨("messages_with", none), "messages_with", "messages_with", defArgs (top 58), defBody (top 58), defScope (top 58), [], []⟩
def d_part_with : He.DefD := ⟨("part_with", none), "part_with", "part_with", defArgs (top 59), defBody (top 59), defScope (top 59), [], []⟩
def d_steps_with : He.DefD := ⟨("steps_with", none), "steps_with", "steps_with", defArgs (top 60), defBody (top 60), defScope (top 60), [], []⟩
def d_ranked : He.DefD := ⟨("ranked", none), "ranked", "ranked", defArgs (top 61), defBody (top 61), defScope (top 61), [], []⟩
def d_is_class_input : He.DefD := ⟨("is_class_input", none), "is_class_input", "is_class_input", defArgs (top 62), defBody (top 62), defScope (top 62), [], []⟩
def d_demand_class_input : He.DefD := ⟨("demand_class_input", none), "demand_class_input", "demand_class_input", defArgs (top 63), defBody (top 63), defScope (top 63), [], []⟩
def d_class_of : He.DefD := ⟨("class_of", none), "class_of", "class_of", defArgs (top 64), defBody (top 64), defScope (top 64), [], []⟩
def d_is_class : He.DefD := ⟨("is_class", none), "is_class", "is_class", defArgs (top 65), defBody (top 65), defScope (top 65), [], []⟩
def d_class_from : He.DefD := ⟨("class_from", none), "class_from", "class_from", defArgs (top 66), defBody (top 66), defScope (top 66), [], []⟩
def d_is_possible_output : He.DefD := ⟨("is_possible_output", none), "is_possible_output", "is_possible_output", defArgs (top 67), defBody (top 67), defScope (top 67), [], []⟩
def d_is_possible_part : He.DefD := ⟨("is_possible_part", none), "is_possible_part", "is_possible_part", defArgs (top 68), defBody (top 68), defScope (top 68), [], []⟩
def d_is_possible_step : He.DefD := ⟨("is_possible_step", none), "is_possible_step", "is_possible_step", defArgs (top 69), defBody (top 69), defScope (top 69), [], []⟩
def d_is_deed : He.DefD := ⟨("is_deed", none), "is_deed", "is_deed", defArgs (top 70), defBody (top 70), defScope (top 70), [], []⟩
def d_demand_deed : He.DefD := ⟨("demand_deed", none), "demand_deed", "demand_deed", defArgs (top 71), defBody (top 71), defScope (top 71), [], []⟩
def d_deed_of : He.DefD := ⟨("deed_of", none), "deed_of", "deed_of", defArgs (top 72), defBody (top 72), defScope (top 72), [], []⟩
def d_served : He.DefD := ⟨("served", none), "served", "served", defArgs (top 73), defBody (top 73), defScope (top 73), [], []⟩
def d__law_cell : He.DefD := ⟨("_law_cell", none), "_law_cell", "_law_cell", defArgs (top 75), defBody (top 75), defScope (top 75), [], []⟩
def d__law_row : He.DefD := ⟨("_law_row", none), "_law_row", "_law_row", defArgs (top 76), defBody (top 76), defScope (top 76), [], []⟩
def d__law_word : He.DefD := ⟨("_law_word", none), "_law_word", "_law_word", defArgs (top 77), defBody (top 77), defScope (top 77), [], []⟩
def d__law_words : He.DefD := ⟨("_law_words", none), "_law_words", "_law_words", defArgs (top 78), defBody (top 78), defScope (top 78), [], []⟩
def d__law_sources : He.DefD := ⟨("_law_sources", none), "_law_sources", "_law_sources", defArgs (top 79), defBody (top 79), defScope (top 79), [], []⟩
def d__law_outputs : He.DefD := ⟨("_law_outputs", none), "_law_outputs", "_law_outputs", defArgs (top 80), defBody (top 80), defScope (top 80), [], []⟩
def d__law_keys : He.DefD := ⟨("_law_keys", none), "_law_keys", "_law_keys", defArgs (top 81), defBody (top 81), defScope (top 81), [], []⟩
def d__law_program : He.DefD := ⟨("_law_program", none), "_law_program", "_law_program", defArgs (top 82), defBody (top 82), defScope (top 82), [], []⟩
def d__law_chain_plan : He.DefD := ⟨("_law_chain_plan", none), "_law_chain_plan", "_law_chain_plan", defArgs (top 83), defBody (top 83), defScope (top 83), [], []⟩
def d__law_chain : He.DefD := ⟨("_law_chain", none), "_law_chain", "_law_chain", defArgs (top 84), defBody (top 84), defScope (top 84), [], []⟩
def d__law_position : He.DefD := ⟨("_law_position", none), "_law_position", "_law_position", defArgs (top 85), defBody (top 85), defScope (top 85), [], []⟩
def d__law_step : He.DefD := ⟨("_law_step", none), "_law_step", "_law_step", defArgs (top 86), defBody (top 86), defScope (top 86), [], []⟩
def d__law_chain_step : He.DefD := ⟨("_law_chain_step", none), "_law_chain_step", "_law_chain_step", defArgs (top 87), defBody (top 87), defScope (top 87), [], []⟩
def d__law_deed : He.DefD := ⟨("_law_deed", none), "_law_deed", "_law_deed", defArgs (top 88), defBody (top 88), defScope (top 88), [], []⟩
def d__law_start : He.DefD := ⟨("_law_start", none), "_law_start", "_law_start", defArgs (top 89), defBody (top 89), defScope (top 89), [], []⟩
def d__law_input : He.DefD := ⟨("_law_input", none), "_law_input", "_law_input", defArgs (top 90), defBody (top 90), defScope (top 90), [], []⟩
def d__law_beginning : He.DefD := ⟨("_law_beginning", none), "_law_beginning", "_law_beginning", defArgs (top 91), defBody (top 91), defScope (top 91), [], []⟩
def d__law_integers : He.DefD := ⟨("_law_integers", none), "_law_integers", "_law_integers", defArgs (top 92), defBody (top 92), defScope (top 92), [], []⟩
def d__law_rank : He.DefD := ⟨("_law_rank", none), "_law_rank", "_law_rank", defArgs (top 93), defBody (top 93), defScope (top 93), [], []⟩
def d__law_class : He.DefD := ⟨("_law_class", none), "_law_class", "_law_class", defArgs (top 94), defBody (top 94), defScope (top 94), [], []⟩
def d__law_mapped : He.DefD := ⟨("_law_mapped", none), "_law_mapped", "_law_mapped", defArgs (top 95), defBody (top 95), defScope (top 95), [], []⟩
def d_law : He.DefD := ⟨("law", none), "law", "law", defArgs (top 96), defBody (top 96), defScope (top 96), [], []⟩
def d_Program___init__ : He.DefD := ⟨("Program", some "__init__"), "__init__", "Program.__init__", defArgs (inClass (top 36) 0), defBody (inClass (top 36) 0), defScope (inClass (top 36) 0), [], []⟩
def d_Chain___init__ : He.DefD := ⟨("Chain", some "__init__"), "__init__", "Chain.__init__", defArgs (inClass (top 42) 0), defBody (inClass (top 42) 0), defScope (inClass (top 42) 0), [.adr (He.dflAt ("Chain", some "__init__") 0)], []⟩
def fn : List He.DefD := [d_is_row, d_is_row_of, d_is_integer, d_is_index, d_is_word, d_is_ascending, d_demand, d_words_from, d_channels_from, d_states_from, d_sources_from, d_output_from, d_outputs_from, d_rule_from, d_table_from, d_situations_of, d_positions_among, d_candidates_at, d_signals_of, d_position_of, d_candidates_of, d_step, d_names_of, d_is_configuration, d_is_beginning, d_is_message, d_is_input, d_heard_by, d_messages_on, d_chain_step, d_deed_from, d_tuples_of, d_integers_in, d_ranks_of, d_beginning_with, d_messages_with, d_part_with, d_steps_with, d_ranked, d_is_class_input, d_demand_class_input, d_class_of, d_is_class, d_class_from, d_is_possible_output, d_is_possible_part, d_is_possible_step, d_is_deed, d_demand_deed, d_deed_of, d_served, d__law_cell, d__law_row, d__law_word, d__law_words, d__law_sources, d__law_outputs, d__law_keys, d__law_program, d__law_chain_plan, d__law_chain, d__law_position, d__law_step, d__law_chain_step, d__law_deed, d__law_start, d__law_input, d__law_beginning, d__law_integers, d__law_rank, d__law_class, d__law_mapped, d_law, d_Program___init__, d_Chain___init__]
def fa : List He.Fa := [.glo "is_row", .glo "is_row_of", .glo "is_integer", .glo "is_index", .glo "is_word", .glo "is_ascending", .glo "demand", .glo "words_from", .glo "channels_from", .glo "states_from", .glo "sources_from", .glo "output_from", .glo "outputs_from", .glo "rule_from", .glo "table_from", .glo "situations_of", .glo "positions_among", .glo "candidates_at", .glo "signals_of", .glo "position_of", .glo "candidates_of", .glo "step", .glo "names_of", .glo "is_configuration", .glo "is_beginning", .glo "is_message", .glo "is_input", .glo "heard_by", .glo "messages_on", .glo "chain_step", .glo "deed_from", .glo "tuples_of", .glo "integers_in", .glo "ranks_of", .glo "beginning_with", .glo "messages_with", .glo "part_with", .glo "steps_with", .glo "ranked", .glo "is_class_input", .glo "demand_class_input", .glo "class_of", .glo "is_class", .glo "class_from", .glo "is_possible_output", .glo "is_possible_part", .glo "is_possible_step", .glo "is_deed", .glo "demand_deed", .glo "deed_of", .glo "served", .glo "_law_cell", .glo "_law_row", .glo "_law_word", .glo "_law_words", .glo "_law_sources", .glo "_law_outputs", .glo "_law_keys", .glo "_law_program", .glo "_law_chain_plan", .glo "_law_chain", .glo "_law_position", .glo "_law_step", .glo "_law_chain_step", .glo "_law_deed", .glo "_law_start", .glo "_law_input", .glo "_law_beginning", .glo "_law_integers", .glo "_law_rank", .glo "_law_class", .glo "_law_mapped", .glo "law", .free "len", .free "int", .free "range", .free "tuple", .free "list", .free "sorted", .free "all", .free "isinstance", .free "zip", .free "enumerate", .free "set", .free "bool", .free "str", .str "LETTERS" "abcdefghijklmnopqrstuvwxyz", .int "MOST_LETTERS" 8, .int "MOST_NAMES" 4, .int "MOST_CHANNELS" 2, .int "MOST_SIGNALS" 4, .int "MOST_STATES" 10, .int "MOST_KEPT" 4, .int "MOST_OUTPUTS" 3, .int "MOST_PROGRAMS" 3, .int "MOST_MESSAGES" 40, .glo "PieceError", .exc "PieceError", .glo "InvalidProgram", .exc "InvalidProgram", .glo "InvalidChain", .exc "InvalidChain", .glo "InvalidBeginning", .exc "InvalidBeginning", .glo "InvalidInput", .exc "InvalidInput", .glo "InvalidClass", .exc "InvalidClass", .glo "InvalidDeed", .exc "InvalidDeed", .glo "Program", .cls "Program", .mkr "Program", .meth "Program" "__init__", .noat "Program" "channels", .noat "Program" "names", .noat "Program" "rules", .noat "Program" "states", .noat "Program" "table", .glo "Chain", .cls "Chain", .mkr "Chain", .meth "Chain" "__init__", .noat "Chain" "links", .noat "Chain" "programs"]
abbrev R : PySem.W.OpenRow := PySem.W.OpenLaw.row PySem.Challenge.rw_piecetold_k09_whole_one_deed_for_all
def ex (K : PySem.W.Frag) : Bool := ((["Program"] : List PySem.Str)).all (DL.instB K) && (([] : List PySem.Str)).all fun x => DL.knilB K (He.dflAt (x, some "__init__") 0 K)
abbrev hk : PySem.W.Hook := DL.hookX 5 fa fn ex
def ob (s : PySem.W.SharedT) : He.AlD × Bool := DL.obsX 5 fa fn ex (HandSHeadRun.getT s)
theorem ob_eq (s : PySem.W.SharedT) : ob s = hk.obs s.abs := DL.obsX_eq (HandSHeadRun.getT_eq s)
def names : List PySem.Str := (["PieceError", "InvalidProgram", "InvalidChain", "InvalidBeginning", "InvalidInput", "InvalidClass", "InvalidDeed", "Program", "Chain", "LETTERS", "MOST_LETTERS", "MOST_NAMES", "MOST_CHANNELS", "MOST_SIGNALS", "MOST_STATES", "MOST_KEPT"] : List PySem.Str) ++ (["MOST_OUTPUTS", "MOST_PROGRAMS", "MOST_MESSAGES", "is_row", "is_row_of", "is_integer", "is_index", "is_word", "is_ascending", "demand", "words_from", "channels_from", "states_from", "sources_from", "output_from", "outputs_from"] : List PySem.Str) ++ (["rule_from", "table_from", "situations_of", "positions_among", "candidates_at", "signals_of", "position_of", "candidates_of", "step", "names_of", "is_configuration", "is_beginning", "is_message", "is_input", "heard_by", "messages_on"] : List PySem.Str) ++ (["chain_step", "deed_from", "tuples_of", "integers_in", "ranks_of", "beginning_with", "messages_with", "part_with", "steps_with", "ranked", "is_class_input", "demand_class_input", "class_of", "is_class", "class_from", "is_possible_output"] : List PySem.Str) ++ (["is_possible_part", "is_possible_step", "is_deed", "demand_deed", "deed_of", "served", "_law_cell", "_law_row", "_law_word", "_law_words", "_law_sources", "_law_outputs", "_law_keys", "_law_program", "_law_chain_plan", "_law_chain"] : List PySem.Str) ++ (["_law_position", "_law_step", "_law_chain_step", "_law_deed", "_law_start", "_law_input", "_law_beginning", "_law_integers", "_law_rank", "_law_class", "_law_mapped"] : List PySem.Str)
theorem run (w : World) : HandSHeadRun.RunEq R (PySem.W.view R.prog [96]) hk ob 8000 names w := by
  intro os
  kernel_rfl
end K09H
/-! DL21: set(xs), xs a list of ints. -/
namespace DL
open PySem PySem.Spec PyProof.Rows L2

/-! ### set(xs), xs a list of ints -/
set_option maxHeartbeats 3200000 in
theorem set_of_ints {prog : Program} {w : World} {A : Around} {E Q : Value → Shared → Prop} {s : Shared} {la : Addr} {vals : Array Value} {ns : List Int} (quiet : A.handled = none) (isq : s.heap.IsList la vals) (num : IntsAre vals.toList ns) (few : ns.length + 1 < scanBound)
    (post : ∀ (h' : Heap) (tk c : Nat), SetR w h' s.heap.objs.size (fun j => decide (j ∈ ns)) c → c ≤ ns.length → (∀ b o, s.heap.get? b = some o → h'.get? b = some o) → Q (.ref s.heap.objs.size) { s with heap := h', toks := tk }) :
    wpAny (model prog w) A (call (.type "set") [.ref la]) Q E s := by
  have ⟨c0, tl0, mro0⟩ := PySem.F.called_set.mro
  have made0 := PySem.F.called_set.made
  have sub0 := PySem.F.called_set.sub
  have lens : vals.size = ns.length := by rw [← PyProof.Rows.IntsAre.length num, Array.length_toList]
  refine wpAny_call (codeAny_of_tree ?_)
  show wpAny _ _ (callAny (.type "set") _) _ _ _
  refine wpAny_pure ⟨Code.quiet_builtin _ (by decide +kernel), codeAny_builtin PySem.F.entry_type_call ?_⟩
  rw [Around.under_plain (weight_type_call_type "set" [.ref la] []) rfl]
  have nt0 := PySem.F.called_set.notType
  have cc0 := PySem.F.called_set.canCreate
  have tc0 := PySem.F.typeCall_set_1 (.ref la)
  repeat (any_goals (first | assumption | wp_step))
  generalize eled : (!w.params.followText "set-order") = led
  refine codeAny_mono (code_set_led1 (.ref la) (E := E) (Q₁ := fun ob s1 => ob = .ref s.heap.objs.size ∧ s1 = { s with heap := s.heap.push (emptySet led) }) (by rw [eled]; exact ⟨rfl, rfl⟩)) fun r s1 hr => ?_
  cases r with
  | error e => exact hr
  | ok fl =>
  cases fl with
  | ret ob =>
    obtain ⟨rfl, rfl⟩ := hr
    have gS : (s.heap.push (emptySet led)).get? s.heap.objs.size = some (emptySet led) := Heap.get?_push_size _ rfl
    have tS : Shared.TypeIs { s with heap := s.heap.push (emptySet led) } (.ref s.heap.objs.size) "set" := ⟨_, gS, rfl⟩
    have il := PySem.F.called_set.init.lookup
    have ib := PySem.F.called_set.init.bind (.ref s.heap.objs.size)
    repeat (any_goals (first | assumption | wp_step))
    refine codeAny_mono (codeAny_call_builtin (R := wants (fun r s2 => r = .none ∧ ∃ h' tk c, s2 = { s with heap := h', toks := tk } ∧ SetR w h' s.heap.objs.size (fun j => decide (j ∈ ns)) c ∧ c ≤ ns.length ∧ (∀ b o, s.heap.get? b = some o → h'.get? b = some o)) E) PySem.F.called_set.init.plain PySem.F.entry_set_init (check_set_init_1 tS ?_)) fun r2 s2 hr2 => ?_
    · obtain ⟨⟨ocls, odct, odat, oslt⟩, gl, hcl, cap, hdl⟩ := isq
      simp only at hcl hdl
      subst hcl hdl
      have gl1 : (s.heap.push (emptySet led)).get? la = some { cls := .type "list", dict := odct, data := .seq vals cap, slots := oslt } := Heap.get?_push_of_some _ gl
      have ss1 := PySem.F.sub_list_set
      have ss2 := PySem.F.sub_list_frozenset
      have nd : (Value.type "list" == Value.type "dict") = false := by decide
      have isq1 : (s.heap.push (emptySet led)).IsList la vals := ⟨_, gl1, rfl, cap, rfl⟩
      unfold Builtin.«set.__init__» noKeywords Builtin.Frozenset.updateFrom
      generalize eIt : pyIter = theIter
      wp_walk
      subst eIt
      refine wpAny_pyIter_list isq1 ?_
      refine wpAny_bind (wpAny_runValue ?_)
      have ltl : la < s.heap.objs.size := Heap.lt_size gl
      have quiet3 : A.in1.in1.in1.handled = none := by simp [quiet]
      have psz : (s.heap.push (emptySet led)).objs.size = s.heap.objs.size + 1 := Heap.size_push ..
      have la_ne : la ≠ (s.heap.push (emptySet led)).objs.size := by rw [psz]; exact Nat.ne_of_lt (Nat.lt_succ_of_lt ltl)
      have S_out : s.heap.objs.size ∉ [(s.heap.push (emptySet led)).objs.size, la] := by
        rw [psz]; exact out2 (Nat.ne_of_lt (Nat.lt_succ_self _)) (Nat.ne_of_gt ltl)
      have at_ : ∀ (i : Nat) (v : Value), vals[i]? = some v → ∃ k t, ns[i]? = some k ∧ v = .int k t := fun i v hv => by
        have lt : i < ns.length := by rw [← lens]; exact (Array.getElem?_eq_some_iff.mp hv).1
        obtain ⟨t, e⟩ := PyProof.Rows.IntsAre.int_at num i v (by rw [Array.getElem?_toList]; exact hv)
        rw [List.getD_eq_getElem?_getD, List.getElem?_eq_getElem lt] at e
        exact ⟨ns[i], t, List.getElem?_eq_getElem lt, e⟩
      refine set_update_ints ((Walks.list quiet3 _ la la_ne vals).toS) s.heap.objs.size S_out ns lens few at_ (vals.size - 0) 0 _ (by omega) (Nat.zero_le _)
        ⟨⟨_, Heap.get?_push_size _ rfl, rfl, rfl⟩, isq1.push _⟩ ?begin ?finish
      case begin =>
        refine ⟨0, Nat.le_refl 0, setR_new_at ?_⟩
        rw [eled]
        exact Heap.get?_push_of_some _ gS
      case finish =>
        rintro ⟨h', g', d', tk', os'⟩ c mv hc hS'
        obtain rfl : g' = s.gens := mv.gens
        obtain rfl : d' = s.drawn := mv.drawn
        obtain rfl : os' = s.os := mv.os
        show wpAny _ _ _ _ _ _
        refine wpAny_pure ?_
        show wpAny _ _ (ret Value.none) _ _ _
        refine wpAny_pure ⟨rfl, h', tk', c, rfl, hS', by omega, fun b o e => ?_⟩
        have hb := Heap.lt_size e
        refine mv.heap b o (fun q => ?_) (Heap.get?_push_of_some _ (Heap.get?_push_of_some _ e))
        rw [psz] at q
        exact out2 (Nat.ne_of_lt hb) (Nat.ne_of_lt (Nat.lt_succ_of_lt hb)) q
    · cases r2 with
      | error e => exact hr2
      | ok fl2 =>
        cases fl2 with
        | ret r =>
          obtain ⟨rfl, h', tk, c, rfl, hS', hc, hk'⟩ := hr2
          repeat (any_goals (first | assumption | wp_step))
          exact post _ _ _ hS' hc hk'
        | _ => exact hr2.elim
  | _ => exact hr.elim

end DL
/-! DL22: the sorted set of a list of ints; min of two; dicts of ints; raise. -/
namespace DL
open PySem PySem.Spec PyProof.Rows L2
section
variable {X : Cx}
def rSetI (K : PySem.W.Frag) (w : World) : List V → Hp → VK → Prop := fun xs H Q => ∃ (l : Addr) (ns : List Int), xs = [.ref l] ∧ SqL K H l (ns.map V.int) ∧ ns.length + 1 < scanBound ∧
  ∀ p c, H p = none → c ≤ ns.length → Q (.ref p) (upd H p (SetO w p (fun j => decide (j ∈ ns)) c))
theorem cr_setI (hc : X.calm = true) : CallR X (.type "set") (rSetI X.K X.w) := by
  intro pins s σ H vs us Q I r h
  obtain ⟨l, ns, rfl, hq, few, q⟩ := h
  rw [Vals.ref1 r]
  obtain ⟨its, rv, pl, hz⟩ := I.list hq
  refine set_of_ints (I.ok.hd hc) pl.isList (by simpa using ints_of_vals rv) few fun h' tk c hS hc' hk => ?_
  have hn : H s.heap.objs.size = none := I.hok.fresh (Nat.le_refl _)
  exact ⟨.ref _, _, I.laid (t' := tk) hk (Nat.le_refl _) (setO_new hS), rfl, q _ c hn hc'⟩
end

/-! ### over data -/
def dedI : List Int → List Int
  | [] => []
  | x :: r => if x ∈ r then dedI r else x :: dedI r
theorem mem_dedI {x : Int} : ∀ {xs : List Int}, x ∈ dedI xs ↔ x ∈ xs
  | [] => Iff.rfl
  | y :: r => by
    unfold dedI
    have ih := mem_dedI (x := x) (xs := r)
    split
    · rename_i h
      rw [ih, List.mem_cons]
      constructor
      · exact .inr
      · rintro (rfl | h2)
        · exact h
        · exact h2
    · rw [List.mem_cons, List.mem_cons, ih]
theorem dedI_nodup : ∀ xs : List Int, (dedI xs).Nodup
  | [] => List.nodup_nil
  | y :: r => by
    unfold dedI
    split
    · exact dedI_nodup r
    · rename_i h
      exact List.nodup_cons.mpr ⟨fun q => h (mem_dedI.mp q), dedI_nodup r⟩
def setI (xs : List Int) : List Int := sortI (dedI xs)
def oSetSorted : D → Option (List D)
  | .lst xs => (ints? xs).bind fun ns => if ns.length < 64 then some ((setI ns).map .int) else none
  | _ => none
theorem nodup_perm {α : Type} [DecidableEq α] : ∀ {xs ys : List α}, xs.Nodup → ys.Nodup → (∀ x, x ∈ xs ↔ x ∈ ys) → xs.Perm ys
  | [], ys, _, _, h => by
    cases ys with
    | nil => exact .nil
    | cons y r => exact absurd ((h y).mpr List.mem_cons_self) (by simp)
  | x :: r, ys, h1, h2, h => by
    have hx : x ∈ ys := (h x).mp List.mem_cons_self
    have n1 := List.nodup_cons.mp h1
    refine List.Perm.trans (List.Perm.cons x (nodup_perm n1.2 (h2.erase x) fun z => ?_)) (List.perm_cons_erase hx).symm
    rw [List.Nodup.mem_erase_iff h2]
    constructor
    · intro hz
      exact ⟨fun e => n1.1 (by rw [← e]; exact hz), (h z).mp (List.mem_cons_of_mem _ hz)⟩
    · rintro ⟨ne, hz⟩
      rcases List.mem_cons.mp ((h z).mpr hz) with e | e
      · exact absurd e ne
      · exact e
theorem setI_uniq {xs out : List Int} (s : out.Pairwise (· < ·)) (m : ∀ k, k ∈ out ↔ k ∈ xs) : out = setI xs := by
  refine sorted_uniq (List.Perm.trans (nodup_perm (s.imp fun h => Int.ne_of_lt h) (dedI_nodup xs) fun z => by rw [m, mem_dedI]) (sortI_perm _).symm) (s.imp fun h => Int.le_of_lt h) (sortI_sorted _)
def oMin2 : D → D → Option D
  | .int i, .int j => some (.int (if j < i then j else i))
  | _, _ => none
section
variable {X : Cx} {W : Wish} {a b : Expr} {fa fb : Env → R D} {pos p p2 q : Pos}
theorem df_sortSet (hc : X.calm = true) (hg : Gl X "sorted") (hg2 : Gl X "set") (hm : X.mg "sorted" = none) (hm2 : X.mg "set" = none) (ha : DB X W a fa)
    (n1 : starEach [.Call (.Name "set" p2) [a] [] q] X.env = (false, eval (.Call (.Name "set" p2) [a] [] q) X.env) :: starEach [] X.env := by rfl) (hpl : (backTo pos (starEach [] X.env)).any (·.1) = false := by rfl)
    (n2 : starEach [a] X.env = (false, eval a X.env) :: starEach [] X.env := by rfl) (hpl2 : (backTo q (starEach [] X.env)).any (·.1) = false := by rfl) :
    DF X W (.Call (.Name "sorted" p) [.Call (.Name "set" p2) [a] [] q] [] pos) (fun ρ => (fa ρ).bind fun y => R.of (oSetSorted y)) :=
  (pe_callB (cr_sortedSet hc) hg hm (by decide +kernel) (pa_cons (pe_callTy (p := p2) (cr_setI hc) hg2 hm2 (by decide +kernel) (pa_cons ha pa_nil n2) (by decide) (by decide) n2 hpl2) pa_nil n1) (by decide) (by decide) n1 hpl).weak
    fun σ H Q ⟨F0, H0, ρ, F, z, h⟩ => post_bind z rF_early h fun F1 H1 v y z1 g1 r1 h => by
    obtain ⟨d, e, hF⟩ := post_of h
    unfold oSetSorted at e
    split at e
    · obtain ⟨ns, e1, e2⟩ := Option.bind_eq_some_iff.mp e
      split at e2
      · rename_i few
        cases e2
        obtain ⟨l, vs, rfl, f, q⟩ := r1.lst' z1.sub
        have ev := q.ints e1
        subst ev
        refine ⟨l, ns, rfl, SqL.of f, by unfold scanBound; omega, fun p c hp hc => ⟨p, _, c, rfl, upd_same, by omega, fun out r srt mem _ hr => ?_⟩⟩
        have eo : out = setI ns := setI_uniq srt fun k => by rw [mem]; exact decide_eq_true_iff
        subst eo
        have nr : r ≠ p := fun e => by subst e; rw [upd_same] at hr; cases hr
        have g1 := Grow.own (o := SetO X.w p (fun j => decide (j ∈ ns)) c) z1.sub hp
        exact hF (.ref r) F1 _ (g1.trans (Grow.own g1.fh hr)) ⟨r, _, rfl, by rw [upd_ne nr] at hr; exact hr, z1.sub.out (by rw [upd_ne nr] at hr; exact hr), upd_same, RepL.ofInts _⟩
      · cases e2
    · cases e
theorem dv_min2 (hc : X.calm = true) (hg : Gl X "min") (hm : X.mg "min" = none) (ha : DB X W a fa) (hb : DB X W b fb) (h1 : starEach (a :: [b]) X.env = (false, eval a X.env) :: starEach [b] X.env := by rfl) (h2 : starEach (b :: []) X.env = (false, eval b X.env) :: starEach [] X.env := by rfl) (hpl : (backTo pos (starEach [b] X.env)).any (·.1) = false := by rfl) :
    DV X W (.Call (.Name "min" p) [a, b] [] pos) (fun ρ => (fa ρ).bind fun x => (fb ρ).bind fun y => R.of (oMin2 x y)) :=
  (pe_callB (call_min2 hc) hg hm (by decide +kernel) (pa_cons ha (pa_cons hb pa_nil h2) h1) (by decide) (by decide) h1 hpl).weak
    fun σ H Q ⟨F0, H0, ρ, F, z, h⟩ => post_bind z rV_early h fun F1 H1 v x z1 g1 r1 h => post_bind z1 rV_early h fun F2 H2 u y z2 g2 r2 h => by
    obtain ⟨d, e, hF⟩ := post_of h
    unfold oMin2 at e
    split at e
    · cases e
      have e1 := (r1.up g2).int
      have e2 := r2.int
      subst e1 e2
      exact ⟨_, _, rfl, hF _ _ _ (Grow.refl z2.sub) (.int _)⟩
    · cases e
end

/-! ### dicts whose keys are ints and texts -/
section
variable {K : KF} {F : Hp} {v : V} {d : D}
theorem RepM.any {k : Key} {es : List (Key × V)} {kvs : List (Key × D)} (h : RepM K F es kvs) : (es.any fun kv => decide (kv.1 = k)) = (kvs.any fun kv => decide (kv.1 = k)) := by
  induction kvs generalizing es with
  | nil => cases h; rfl
  | cons a r ih => cases h with | cons x t => rw [List.any_cons, List.any_cons, ih t]
theorem RepM.mapSet {k : Key} (rv : Rep K F v d) {es : List (Key × V)} {kvs : List (Key × D)} (h : RepM K F es kvs) : RepM K F (es.map fun kv => if kv.1 = k then (kv.1, v) else kv) (kvs.map fun kv => if kv.1 = k then (kv.1, d) else kv) := by
  induction kvs generalizing es with
  | nil => cases h; exact .nil
  | cons a r ih =>
    cases h with
    | @cons g _ _ _ _ x t =>
      rw [List.map_cons, List.map_cons]
      by_cases e : g = k
      · simp only [e, if_pos]; exact .cons rv (ih t)
      · simp only [e, if_neg, not_false_eq_true]; exact .cons x (ih t)
theorem RepM.app {es es2 : List (Key × V)} {kvs kvs2 : List (Key × D)} (h : RepM K F es kvs) (h2 : RepM K F es2 kvs2) : RepM K F (es ++ es2) (kvs ++ kvs2) := by
  induction kvs generalizing es with
  | nil => cases h; exact h2
  | cons a r ih => cases h with | cons x t => exact .cons x (ih t)
theorem RepM.put {k : Key} (rv : Rep K F v d) {es : List (Key × V)} {kvs : List (Key × D)} (r : RepM K F es kvs) : RepM K F (putK es k v) (putE kvs k d) := by
  unfold putK putE
  rw [r.any]
  split
  · exact r.mapSet rv
  · exact r.app (.cons rv .nil)
theorem RepM.len {es : List (Key × V)} {kvs : List (Key × D)} (h : RepM K F es kvs) : es.length = kvs.length := by
  induction kvs generalizing es with
  | nil => cases h; rfl
  | cons a r ih => cases h with | cons x t => rw [List.length_cons, List.length_cons, ih t]
def lookM (kvs : List (Key × D)) (k : Key) : Option D := (kvs.find? fun kv => decide (kv.1 = k)).map (·.2)
theorem RepM.look {k : Key} {es : List (Key × V)} {kvs : List (Key × D)} (h : RepM K F es kvs) : (∀ d, lookM kvs k = some d → ∃ v, valV es k = some v ∧ Rep K F v d) ∧ (lookM kvs k = none → valV es k = none) := by
  induction kvs generalizing es with
  | nil => cases h; exact ⟨fun d e => by simp [lookM] at e, fun _ => rfl⟩
  | cons a r ih =>
    cases h with
    | @cons g w _ x _ rx t =>
      obtain ⟨h1, h2⟩ := ih t
      have q1 : ∀ {α : Type} {p : Key × α} {r : List (Key × α)}, ((p :: r).find? fun kv => decide (kv.1 = k)) = if p.1 = k then some p else r.find? fun kv => decide (kv.1 = k) := fun {α p r} => by
        rw [List.find?_cons]
        by_cases e : p.1 = k <;> simp [e]
      unfold lookM valV at *
      rw [q1, q1]
      by_cases e : g = k
      · rw [if_pos e, if_pos e]
        exact ⟨fun d hd => by cases hd; exact ⟨w, rfl, rx⟩, fun q => by cases q⟩
      · rw [if_neg e, if_neg e]
        exact ⟨h1, h2⟩
end
def keyP : D → Option Key
  | .int i => some (.inl i)
  | .str x => some (.inr x)
  | _ => none
theorem keyP_v {K : KF} {F : Hp} {v : V} {d : D} {k : Key} (r : Rep K F v d) (e : keyP d = some k) : v = kV k := by
  unfold keyP at e
  split at e
  · cases e; cases r; rfl
  · cases e; cases r; rfl
  · cases e
/-- x[i]: x a list, a tuple, a text, or a dict whose keys are ints and texts -/
def oIxG : D → D → Option D
  | .dck kvs, y => (keyP y).bind (lookM kvs)
  | x, y => oIx x y
abbrev eIxG (a b : Env → R D) : Env → R D := fun ρ => (a ρ).bind fun x => (b ρ).bind fun y => R.of (oIxG x y)
section
variable {X : Cx} {W W1 W2 : Wish} {a b : Expr} {fa fb : Env → R D} {pos p p2 q : Pos}
theorem oIxG_not {x y : D} (h : ∀ kvs, x ≠ .dck kvs) : oIxG x y = oIx x y := by
  cases x <;> first | rfl | exact absurd rfl (h _)
theorem dv_ixG (hu : X.A.units + 1 < cLine) (ha : DB X W a fa) (hb : DV X W b fb) (hs : PlainIx b := by exact fun _ _ => rfl) (hs2 : NoSl b := by exact fun _ _ => rfl) : DV X W (.Subscript a b pos) (eIxG fa fb) := by
  refine ⟨fun pins s σ H Q I h => ?_⟩
  obtain ⟨F0, H0, ρ, F, z, h⟩ := h
  have h : Post W (rV X.K) F H σ ((fa ρ).bind fun x => (fb ρ).bind fun y => R.of (oIxG x y)) Q := h
  cases e : fa ρ with
  | stuck => rw [e] at h; exact h.elim
  | err c =>
    refine (dv_ix ha (dv_b hb) hs).run pins s σ H Q I ⟨F0, H0, ρ, F, z, ?_⟩
    rw [e] at h
    show Post W (rV X.K) F H σ ((fa ρ).bind _) Q
    rw [e]
    exact h
  | ok x =>
    by_cases hx : ∃ kvs, x = .dck kvs
    · obtain ⟨kvs, rfl⟩ := hx
      refine (pe_dget hu ha hb hs2).run pins s σ H Q I ⟨F0, H0, ρ, F, z, ?_⟩
      rw [e] at h
      show Post W (rB X.K) F H σ (fa ρ) _
      rw [e]
      intro v F1 H1 g1 r1
      have h : Post W (rV X.K) F1 H1 σ ((fb ρ).bind fun y => R.of (oIxG (.dck kvs) y)) Q := Post.later rV_early g1 h
      refine post_bind (z.up g1) rV_early h fun F2 H2 u y z2 g2 r2 h => ?_
      obtain ⟨d, e2, hF⟩ := post_of h
      obtain ⟨k, e3, e4⟩ := Option.bind_eq_some_iff.mp e2
      have ek := keyP_v r2 e3
      subst ek
      cases RepB.up r1 g2 with
      | rep r =>
        cases r with
        | dck f q =>
          obtain ⟨w, e5, rw'⟩ := q.look.1 d e4
          exact ⟨_, w, rfl, by rw [← e5]; exact DGet.k (z2.sub _ _ f), hF _ _ _ (Grow.refl z2.sub) rw'⟩
    · refine (dv_ix ha (dv_b hb) hs).run pins s σ H Q I ⟨F0, H0, ρ, F, z, ?_⟩
      rw [e] at h
      show Post W (rV X.K) F H σ ((fa ρ).bind _) Q
      rw [e]
      have h : Post W (rV X.K) F H σ ((fb ρ).bind fun y => R.of (oIxG x y)) Q := h
      simp only [oIxG_not fun kvs ek => hx ⟨kvs, ek⟩] at h
      exact h
end

/-! ### {k: v for .. in ..} -/
def dcAll (item : D → Option (Option (Key × D))) : List D → List (Key × D) → Option (List (Key × D))
  | [], acc => some acc
  | d :: ds, acc => (item d).bind fun o => dcAll item ds (match o with | some (k, v) => putE acc k v | none => acc)
def dcItem (vs : List Nat) (gt : D → Env → Option Env) (tt : Env → R Bool) (fk fv : Env → R D) (ρ : Env) (d : D) : Option (Option (Key × D)) :=
  (gt d (wipeE ρ vs)).bind fun ρ1 => (calm (tt ρ1)).bind fun k => if k = true then (calm (fk ρ1)).bind fun x => (keyP x).bind fun x => (calm (fv ρ1)).map fun y => some (x, y) else some none
def dcF (vs : List Nat) (gt : D → Env → Option Env) (tt : Env → R Bool) (fk fv : Env → R D) (ρ : Env) (items : List D) : Option D :=
  if few items then (dcAll (dcItem vs gt tt fk fv ρ) items []).map .dck else none
abbrev eDc (vs : List Nat) (gt : D → Env → Option Env) (tt : Env → R Bool) (fk fv : Env → R D) (fi : Env → R (List D)) : Env → R D := fun ρ => (fi ρ).bind fun items => R.of (dcF vs gt tt fk fv ρ items)
theorem putE_len (kvs : List (Key × D)) (k : Key) (v : D) : (putE kvs k v).length ≤ kvs.length + 1 := by
  unfold putE
  split
  · rw [List.length_map]; omega
  · rw [List.length_append]; exact Nat.le_refl _
section
variable {X : Cx} {W W1 W2 W3 : Wish} {kx vx tg iter : Expr} {ifs : List Expr} {scope : Scope} {own : List (Str × Nat)} {pos : Pos} {fi : Env → R (List D)} {is : List Nat} {gt : D → Env → Option Env} {tt : Env → R Bool} {fk fv : Env → R D}
theorem dc_it {J : It} {n : Nat} {G : Hp → Prop} {Y : Nat → Hp → V → Hp → Prop} (wk : Walk J n G Y) {g : TG} {t : TT} {tk tv : TE} {vs : List Nat} {σ : L2.St} {H1 : Hp} {Dd : Addr} {Qd : Hp → Prop} (Pv : Nat → Hp → Prop) (first : Pv 0 (upd H1 Dd (.dK []))) (stays : ∀ i H, i ≤ n → Pv i H → G H)
    (turn : ∀ i x H H', i < n → Pv i H → Y i H x H' → g x (L2.wipe σ vs) H' fun σ2 H2 => L2.wipe σ2 vs = L2.wipe σ vs ∧ t σ2 H2 fun b H3 =>
      if b = true then tk σ2 H3 fun y H4 => tv σ2 H4 fun u H5 => ∃ es k, y = kV k ∧ H5 Dd = some (.dK es) ∧ es.length < sizeLine ∧ Pv (i + 1) (upd H5 Dd (.dK (putK es k u))) else Pv (i + 1) H3) (last : ∀ H, Pv n H → Qd H) :
    ∃ Z : Nat → Nat → Hp → Prop, (∃ m, Z 0 m (upd H1 Dd (.dK []))) ∧ ∀ i m H, Z i m H →
      (J.stop i H ∧ Qd H) ∨ (J.go i H ∧ ∃ N : Hp → Prop, (∀ H', N H' → ∃ m', m' < m ∧ Z (i + 1) m' H') ∧ ∀ x H', J.yld i H x H' → g x (L2.wipe σ vs) H' fun σ2 H2 => L2.wipe σ2 vs = L2.wipe σ vs ∧ t σ2 H2 fun b H3 =>
        if b = true then tk σ2 H3 fun y H4 => tv σ2 H4 fun u H5 => ∃ es k, y = kV k ∧ H5 Dd = some (.dK es) ∧ es.length < sizeLine ∧ N (upd H5 Dd (.dK (putK es k u))) else N H3) := by
  refine ⟨fun i m H => m + i = n ∧ Pv i H, ⟨n, rfl, first⟩, ?_⟩
  intro i m H ⟨em, p⟩
  have sg := stays i H (by omega) p
  rcases Nat.lt_or_ge i n with lt | ge
  · exact .inr ⟨wk.goes i H lt sg, Pv (i + 1), fun H' p' => ⟨m - 1, by omega, by omega, p'⟩, fun x H' y => turn i x H H' lt p (wk.yields i H x H' lt sg y)⟩
  · have ei : i = n := by omega
    subst ei
    exact .inl ⟨wk.stops H sg, last H p⟩
theorem dc_reads {vs : List Nat} (h0 : ∀ i ∈ is, i ∈ vs) {σ : L2.St} {H : Hp} {Q : VK} (h : tG X.K W (rV X.K) (eDc vs gt tt fk fv fi) σ H Q) :
    tDc (tG X.K W (rI X.K) fi) (tT X.K is gt) (tG X.K W1 rT tt) (tG X.K W2 (rV X.K) fk) (tG X.K W3 (rV X.K) fv) vs σ H Q := by
  obtain ⟨F0, H0, ρ, F, z, h⟩ := h
  refine post_bind z rV_early h fun F1 H1 J items z1 g1 it h => ?_
  obtain ⟨yd, e, hF⟩ := post_of h
  unfold dcF at e
  by_cases hfew : few items
  case neg => rw [if_neg hfew] at e; cases e
  rw [if_pos hfew] at e
  obtain ⟨ys, e', ey⟩ := Option.map_eq_some_iff.mp e
  subst ey
  obtain ⟨G, Y, wk, hG, hY⟩ := it
  intro Dd hD
  have hF1D : F1 Dd = none := z1.sub.out hD
  have h0D : H0 Dd = none := z1.grow.hh.free hD
  have zw := z1.wipe vs
  have apart := apart_new zw hD
  refine dc_it wk (fun i H => ∃ F acc dn, SL X.K F0 H0 (wipeE ρ vs) (L2.wipe σ vs) F H ∧ Grow F1 H1 F H ∧ F Dd = none ∧ H Dd = some (.dK acc) ∧ RepM X.K F acc dn ∧ acc.length ≤ i ∧
    dcAll (dcItem vs gt tt fk fv ρ) (items.drop i) dn = some ys) ?_ ?_ ?_ ?_
  · exact ⟨F1, [], [], zw.poke hF1D h0D apart, Grow.own z1.sub hD, hF1D, upd_same, .nil, Nat.le_refl _, e'⟩
  · rintro i H hi ⟨F, _, _, zz, g, _⟩
    exact hG F H g.ff zz.sub
  · rintro i x H H' hi ⟨F, acc, dn, zz, g, fD, hD2, ra, la, ea⟩ y
    obtain ⟨d, F', ed, g2, r⟩ := hY i F H x H' g.ff zz.sub hi y
    have edr : items.drop i = d :: items.drop (i + 1) := by
      rw [List.drop_eq_getElem_cons hi]
      rw [List.getElem?_eq_getElem hi] at ed
      cases ed; rfl
    rw [edr] at ea
    unfold dcAll at ea
    obtain ⟨o, e1, e2⟩ := Option.bind_eq_some_iff.mp ea
    unfold dcItem at e1
    obtain ⟨ρ1, e4, e5⟩ := Option.bind_eq_some_iff.mp e1
    obtain ⟨k, e6, e7⟩ := Option.bind_eq_some_iff.mp e5
    have e6 := calm_some e6
    have hHD : ∀ {F' H' : Hp}, Grow F H F' H' → F' Dd = none ∧ H' Dd = some (.dK acc) := fun gg => ⟨gg.nn Dd (by rw [hD2]; simp) fD, gg.hh _ _ hD2⟩
    refine ⟨F0, H0, wipeE ρ vs, F', d, ρ1, zz.up g2, r, e4, fun σ2 F2 H2 g3 z2 el => ⟨el.wipe h0, F0, H0, ρ1, F2, z2, ?_⟩⟩
    rw [e6]
    intro b F3 H3 g4 hb
    cases hb
    have g24 := (g2.trans g3).trans g4
    cases k with
    | true =>
      rw [if_pos rfl] at e7 ⊢
      obtain ⟨kd, e8, e9⟩ := Option.bind_eq_some_iff.mp e7
      obtain ⟨kk, e10, e11⟩ := Option.bind_eq_some_iff.mp e9
      obtain ⟨yv, e12, e13⟩ := Option.map_eq_some_iff.mp e11
      subst e13
      have e8 := calm_some e8
      have e12 := calm_some e12
      refine ⟨F0, H0, ρ1, F3, z2.up g4, ?_⟩
      rw [e8]
      intro vk F4 H4 g5 rk
      refine ⟨F0, H0, ρ1, F4, (z2.up g4).up g5, ?_⟩
      rw [e12]
      intro v F5 H5 g6 rv
      have gg := (g24.trans g5).trans g6
      obtain ⟨f4, h4⟩ := hHD gg
      have ek := keyP_v rk e10
      have rp := (ra.mono gg.ff).put (k := kk) rv
      refine ⟨acc, kk, ek, h4, ?_, F5, _, putE dn kk yv, (zz.up gg).poke f4 h0D apart, (g.trans gg).poke f4 hD, f4, upd_same, rp, ?_, e2⟩
      · rw [sizeLine_eq]
        have : items.length ≤ 16777216 := hfew
        omega
      · have h1 := rp.len
        have h2 := putE_len dn kk yv
        have h3 := ra.len
        omega
    | false =>
      rw [if_neg Bool.false_ne_true] at e7 ⊢
      cases e7
      obtain ⟨f3, h3⟩ := hHD g24
      exact ⟨F3, acc, dn, zz.up g24, g.trans g24, f3, h3, ra.mono g24.ff, by omega, e2⟩
  · rintro H ⟨F, acc, dn, zz, g, fD, hD2, ra, la, ea⟩
    rw [List.drop_length] at ea
    cases ea
    have up : Same F (upd F Dd (.dK acc)) := Same.add fD
    refine hF _ (upd F Dd (.dK acc)) H ⟨g.hh, g.ff.trans up, fun b o e => ?_, fun b hb e => ?_⟩ (.dck upd_same (ra.mono up))
    · by_cases hb : b = Dd
      · subst hb; rw [upd_same] at e; cases e; exact hD2
      · rw [upd_ne hb] at e; exact g.fh b o e
    · rw [upd_ne (fun q => hb (by rw [q]; exact hD))]; exact g.nn b hb e
/-- {k: v for tg in iter if ..}, a new dict that nothing will change -/
theorem dv_dc (hc : X.calm = true) (hN : X.N.Nodup) (hi : DI X W tg iter fi) (ok : BlkOk X.N X.env.scope scope own)
    (hg : ∀ (s : Shared) (H : Hp) (C : Addr) (cl : List (Str × Addr)) (fp : List Addr), DG (X.blk s H scope (compEnvC scope cl C X.env) fp) tg is gt)
    (ht : ∀ (s : Shared) (H : Hp) (C : Addr) (cl : List (Str × Addr)) (fp : List Addr), DTs (X.blk s H scope (compEnvC scope cl C X.env) fp) W1 ifs tt)
    (hk : ∀ (s : Shared) (H : Hp) (C : Addr) (cl : List (Str × Addr)) (fp : List Addr), DV (X.blk s H scope (compEnvC scope cl C X.env) fp) W2 kx fk)
    (hv : ∀ (s : Shared) (H : Hp) (C : Addr) (cl : List (Str × Addr)) (fp : List Addr), DV (X.blk s H scope (compEnvC scope cl C X.env) fp) W3 vx fv)
    (h0 : ∀ i ∈ is, i ∈ own.map (·.2)) (hs : ∀ x, foldedSetIterable iter X.env x = pure x := by intro _; rfl) :
    DV X W (.DictComp kx vx [⟨tg, iter, ifs, 0⟩] scope pos) (eDc (own.map (·.2)) gt tt fk fv fi) :=
  (pe_dc hc hN hi ok hg ht hk hv hs).weak fun σ H Q h => dc_reads h0 h
end

/-! ### raise -/
/-- an error class of the text -/
def RaiseOk (K : PySem.W.Frag) (mg : Str → Option Value) (n : Str) : Prop := ∃ C, mg n = some (.ref C) ∧ PySem.W.excIn K C He.veBase "ValueError.__new__" = true ∧ PySem.W.keepIn K (.ref C) = true ∧ PySem.W.subIn K (.ref C) (.type "BaseException") = some true ∧ PySem.W.typeIn K (.ref C) = some (.type "type")
abbrev sRaise (n : Str) (f : Env → R D) : Env → Option Out := fun ρ => withR (f ρ) ρ fun _ => some (.ex n ρ)
section
variable {X : Cx} {W' : WX} {e : Expr} {f : Env → R D} {n : Str} {p pos pos' : Pos}
theorem ds_raise (hc : X.calm = true) (tk : Takes X W') (O : RaiseOk X.K X.mg n) (hg : Gl X n) (he : DV X (wish X.mg W') e f)
    (hs : starEach [e] X.env = (false, eval e X.env) :: starEach [] X.env := by rfl) (hdb : (n == ("__debug__" : Str)) = false := by decide) :
    DS X (wish X.mg W') (.Raise (some (.Call (.Name n p) [e] [] pos)) none pos') (sRaise n f) := by
  obtain ⟨C, h1, h2, h3, h4, h5⟩ := O
  refine (ps_raise hc tk (SkE.pmk_own1 PySem.F.excBase_ValueError h2 h1 h3 (raises_own h4 h5) hg he hs hdb)).weak fun D σ H ⟨F0, H0, ρ, F, o, z, e, ho⟩ => ?_
  exact tS_expr z e ho fun v d F1 H1 z1 g1 r e => by
    cases e
    exact ho σ F1 H1 z1 C h1
end

/-! ### is, is not -/
def cIsB : D → D → Option Bool
  | .bl a, .bl b => some (decide (a = b))
  | _, _ => none
def cNotB (x y : D) : Option Bool := (cIsB x y).map (!·)
def isNon : D → Bool
  | .non => true
  | _ => false
def cIsN : D → D → Option Bool
  | x, .non => some (isNon x)
  | _, _ => none
def cNotN (x y : D) : Option Bool := (cIsN x y).map (!·)
theorem repB_non {K : KF} {F H : Hp} {v : V} {x : D} (r : RepB K F H v x) : decide (v = V.non) = isNon x := by
  cases r with
  | rep r => cases r <;> rfl
  | _ => rfl
theorem repB_non' {K : KF} {F H : Hp} {v : V} (r : RepB K F H v .non) : v = V.non := by
  cases r with
  | rep r => cases r; rfl
section
variable {X : Cx}
theorem cd_isB : CmpD X rIsB cIsB := fun F H v u x y k Q s r1 r2 e h => by
  unfold cIsB at e
  split at e
  · cases e
    exact ⟨_, _, r1.bl, r2.bl, h⟩
  · cases e
theorem cd_notB : CmpD X rNotB cNotB := fun F H v u x y k Q s r1 r2 e h => by
  obtain ⟨b, e', eb⟩ := Option.map_eq_some_iff.mp e
  subst eb
  unfold cIsB at e'
  split at e'
  · cases e'
    exact ⟨_, _, r1.bl, r2.bl, h⟩
  · cases e'
theorem cd_isN : CmpD X (fun x y H Q => y = .non ∧ Q (.bl (decide (x = .non))) H) cIsN := fun F H v u x y k Q s r1 r2 e h => by
  unfold cIsN at e
  split at e
  · cases e
    refine ⟨repB_non' r2, ?_⟩
    rw [repB_non r1]
    exact h
  · cases e
theorem cd_notN : CmpD X (fun x y H Q => y = .non ∧ Q (.bl (!decide (x = .non))) H) cNotN := fun F H v u x y k Q s r1 r2 e h => by
  obtain ⟨b, e', eb⟩ := Option.map_eq_some_iff.mp e
  subst eb
  unfold cIsN at e'
  split at e'
  · cases e'
    refine ⟨repB_non' r2, ?_⟩
    rw [repB_non r1]
    exact h
  · cases e'
end

/-! ### a comprehension in a comprehension -/
theorem look_relabel {env : PySem.Env} (sc : Scope) {x : Str} : ∀ {names : List (Str × NameKind)}, names.lookup x = some .cell ∨ names.lookup x = some .free →
    (names.map fun (n, k) => if (k == NameKind.free && env.scope.kind == .function && env.kindOf n == some .cell) then (n, NameKind.cell) else (n, k)).lookup x = some .cell ∨
    (names.map fun (n, k) => if (k == NameKind.free && env.scope.kind == .function && env.kindOf n == some .cell) then (n, NameKind.cell) else (n, k)).lookup x = some .free
  | [], h => by rcases h with h | h <;> cases h
  | (n, k) :: r, h => by
    have ih := look_relabel (env := env) sc (x := x) (names := r)
    rw [List.map_cons]
    rw [List.lookup_cons] at h
    dsimp only
    generalize (k == NameKind.free && env.scope.kind == .function && env.kindOf n == some .cell) = c
    cases q : x == n with
    | true =>
      rw [q] at h
      cases c with
      | true => exact .inl (by rw [if_pos rfl, List.lookup_cons, q])
      | false =>
        rw [if_neg Bool.false_ne_true, List.lookup_cons, q]
        exact h
    | false =>
      rw [q] at h
      have e : ∀ p : Str × NameKind, p.1 = n → List.lookup x (p :: (r.map fun (n, k) => if (k == NameKind.free && env.scope.kind == .function && env.kindOf n == some .cell) then (n, NameKind.cell) else (n, k))) = List.lookup x (r.map fun (n, k) => if (k == NameKind.free && env.scope.kind == .function && env.kindOf n == some .cell) then (n, NameKind.cell) else (n, k)) := fun p hp => by
        obtain ⟨a, b⟩ := p
        cases hp
        rw [List.lookup_cons, q]
      cases c with
      | true => rw [if_pos rfl, e _ rfl]; exact ih h
      | false => rw [if_neg Bool.false_ne_true, e _ rfl]; exact ih h
theorem _root_.L2.BlkOk.re {N : List Str} {sc scope : Scope} {own : List (Str × Nat)} (h : BlkOk N sc scope own) {env : PySem.Env} : BlkOk N (relabel sc env) scope own :=
  ⟨h.kind, h.uniq, h.ix, fun y hy e => look_relabel sc (h.free y hy e), h.own⟩

/-! ### in, not in: any data among data -/
theorem roomA {k : Nat} {A : Around} (r : Room k A) : A.units + 65 < cLine := by have := r.un; omega
def rAmong (K : PySem.W.Frag) (neg : Bool) : R2 := fun x y H Q => ∃ d ds, Dp K H x d ∧ (Dp K H y (.list ds) ∨ Dp K H y (.tuple ds)) ∧ SeqAt.shaped d = true ∧ PyData.canLayAll0 ds = true ∧ Q (.bl (if neg then !(ds.any fun z => PyData.eqv z d) else ds.any fun z => PyData.eqv z d)) H
section
variable {X : Cx}
theorem op_among (room : X.A.units + 65 < cLine) : OpR X (compareOp .In) (rAmong X.K false) := by
  intro pins s σ H x y v u Q I rx ry h
  obtain ⟨d, ds, hx, hy, sd, sl, q⟩ := h
  obtain ⟨as, k1⟩ := Dp.reads I d x v hx rx
  have hr : X.A.units + 1 + min (PyData.depthAll ds) d.depth < cLine := by
    have := SeqAt.depth_of_shaped sd
    omega
  rcases hy with hy | hy
  · obtain ⟨bs, k2⟩ := Dp.reads I (.list ds) y u hy ry
    exact SeqAt.in_list_reads k2 k1 sl (SeqAt.canLay_of_shaped sd) hr ⟨.bl _, H, I, rfl, q⟩
  · obtain ⟨bs, k2⟩ := Dp.reads I (.tuple ds) y u hy ry
    exact SeqAt.in_tuple_reads k2 k1 sl (SeqAt.canLay_of_shaped sd) hr ⟨.bl _, H, I, rfl, q⟩
theorem op_notAmong (room : X.A.units + 65 < cLine) : OpR X (compareOp .NotIn) (rAmong X.K true) := by
  intro pins s σ H x y v u Q I rx ry h
  obtain ⟨d, ds, hx, hy, sd, sl, q⟩ := h
  obtain ⟨as, k1⟩ := Dp.reads I d x v hx rx
  have hr : X.A.units + 1 + min (PyData.depthAll ds) d.depth < cLine := by
    have := SeqAt.depth_of_shaped sd
    omega
  rcases hy with hy | hy
  · obtain ⟨bs, k2⟩ := Dp.reads I (.list ds) y u hy ry
    exact SeqAt.notIn_list_reads k2 k1 sl (SeqAt.canLay_of_shaped sd) hr ⟨.bl _, H, I, rfl, q⟩
  · obtain ⟨bs, k2⟩ := Dp.reads I (.tuple ds) y u hy ry
    exact SeqAt.notIn_tuple_reads k2 k1 sl (SeqAt.canLay_of_shaped sd) hr ⟨.bl _, H, I, rfl, q⟩
end
def seqPy : D → Option (List PyData)
  | .lst xs => pys xs
  | .tup xs => pys xs
  | _ => none
def cInA (x y : D) : Option Bool := x.py.bind fun d => (seqPy y).bind fun ds => if (SeqAt.shaped d && PyData.canLayAll0 ds) = true then some (ds.any fun z => PyData.eqv z d) else none
def cNotInA (x y : D) : Option Bool := (cInA x y).map (!·)
theorem seqPy_dp {K : KF} {F H : Hp} {v : V} {y : D} {ds : List PyData} (r : RepB K F H v y) (s : Same F H) (e : seqPy y = some ds) : Dp K H v (.list ds) ∨ Dp K H v (.tuple ds) := by
  unfold seqPy at e
  split at e
  · exact .inl (r.dp s (by simp [D.py, e]))
  · exact .inr (r.dp s (by simp [D.py, e]))
  · cases e
section
variable {X : Cx}
theorem cd_inA : CmpD X (rAmong X.K false) cInA := fun F H v u x y k Q s r1 r2 e h => by
  unfold cInA at e
  obtain ⟨d, e1, e2⟩ := Option.bind_eq_some_iff.mp e
  obtain ⟨ds, e3, e4⟩ := Option.bind_eq_some_iff.mp e2
  split at e4
  · rename_i hs
    cases e4
    obtain ⟨s1, s2⟩ := Bool.and_eq_true_iff.mp hs
    exact ⟨d, ds, r1.dp s e1, seqPy_dp r2 s e3, s1, s2, h⟩
  · cases e4
theorem cd_notInA : CmpD X (rAmong X.K true) cNotInA := fun F H v u x y k Q s r1 r2 e h => by
  obtain ⟨b, e', eb⟩ := Option.map_eq_some_iff.mp e
  subst eb
  unfold cInA at e'
  obtain ⟨d, e1, e2⟩ := Option.bind_eq_some_iff.mp e'
  obtain ⟨ds, e3, e4⟩ := Option.bind_eq_some_iff.mp e2
  split at e4
  · rename_i hs
    cases e4
    obtain ⟨s1, s2⟩ := Bool.and_eq_true_iff.mp hs
    exact ⟨d, ds, r1.dp s e1, seqPy_dp r2 s e3, s1, s2, h⟩
  · cases e4
end

/-! ### a def that calls itself; a new list that is changed and forgotten -/
theorem dss_stuck {X : Cx} {W : Wish} {sts : List Stmt} : DSs X W sts (fun _ => none) := ⟨fun pins s σ H D I ⟨F0, H0, ρ, F, o, z, e, ho⟩ => by cases e⟩
abbrev sAppNew (f : Env → R (List D)) (fv : Env → R D) : Env → Option Out := fun ρ => withR (f ρ) ρ fun xs => withR (fv ρ) ρ fun d => if xs.length < 16777216 then some (.nx ρ) else none
section
variable {X : Cx} {W : Wish} {l e : Expr} {pos : Pos}
theorem ds_appNew {apos cpos : Pos} {f : Env → R (List D)} {fv : Env → R D} (hv : DF X W l f) (he : DV X W e fv)
    (hst : starEach (e :: []) X.env = (false, eval e X.env) :: starEach [] X.env := by rfl)
    (hbase : attributeBase l "append" X.env (eval l X.env) = eval l X.env := by rfl)
    (hfew : ((backTo cpos (starEach (e :: []) X.env)).all (fun x => !x.1) && (backToKw cpos (keywordEach [] X.env)).all (fun x => x.1.isSome)
      && decide ((e :: []).length + ([] : List Keyword).length + (if ([] : List Keyword).isEmpty then 0 else 1) < 30)) = true := by rfl)
    (hline : (apos.endLine == cpos.line) = true := by rfl) (hplain : (backTo cpos (starEach [] X.env)).any (·.1) = false := by rfl)
    (hs : swapsWith (.Call (.Attribute l "append" apos) [e] [] cpos) none pos.line X.env = pure false := by rfl) :
    DS X W (.Expr (.Call (.Attribute l "append" apos) [e] [] cpos) pos) (sAppNew f fv) :=
  (ps_expr (pe_bm PySem.F.plainAttrs_list PySem.F.slot_list_append PySem.F.type_list_append mt_append hv (pa_cons he pa_nil hst) hbase hfew hline hst hplain) hs).weak fun D σ H ⟨F0, H0, ρ, F, o, z, e, ho⟩ => by
    refine tS_expr z e ho fun v xs F1 H1 z1 g1 r e => ?_
    obtain ⟨a, vs, rfl, h0, hf, hh, rl⟩ := r
    refine ⟨.inl ⟨rfl, vs, SqL.of hh⟩, tS_expr z1 e ho fun w d F2 H2 z2 g2 rw e => ?_⟩
    have hh2 := g2.hh _ _ hh
    have e : (if xs.length < 16777216 then some (Out.nx ρ) else none) = some o := e
    split at e
    · rename_i hl
      cases e
      refine ⟨a, vs, w, rfl, rfl, hh2, by rw [sizeLine_eq, rl.len]; exact hl, ho σ F2 _ (z2.poke (g2.nn a (by rw [hh]; simp) hf) (z.grow.hh.free h0) (apart_new z h0))⟩
    · cases e
end
end DL
namespace K09
open PySem PySem.Spec PyProof.Rows L2 DL
def m_is_row : List D → R Ret := runD 1 1 ((sRet (eIsi2 "list" "tuple" (getB 0))))
def m_is_row_of : List D → R Ret := runD 3 3 ((sRet (eAnd (eCall m_is_row (aCons (getD 0) aNil)) (eChain cLe cLe (getB 1) (eUn oLen (getB 0)) (getB 2)))))
def m_is_integer : List D → R Ret := runD 1 1 ((sRet (eAnd (eIsi "int" (getB 0)) (eUn oNot (eIsi "bool" (getB 0))))))
def m_is_index : List D → R Ret := runD 2 2 ((sRet (eAnd (eCall m_is_integer (aCons (getD 0) aNil)) (eChain cLe cLt (eC (.int 0)) (getB 0) (getB 1)))))
def e_is_word_1 : DL.Env → R D := (eCmp cInC (getB 1) (eC (.str "abcdefghijklmnopqrstuvwxyz")))
def m_is_word : List D → R Ret := runD 2 1 ((sSeq (sIf (bOr (bNot (bVal (eIsi "str" (getB 0)))) (bNot (bChain cLe cLe (eC (.int 1)) (eUn oLen (getB 0)) (eC (.int 8))))) (sRet (eC (.bl false))) sNx) (sRet (eUn oAll (eFz (lLc [1] (setD 1) bYes e_is_word_1 (iSeq (getD 0))))))))
def e_is_ascending_1 : DL.Env → R D := (eCmp cLt (getB 1) (getB 2))
def m_is_ascending : List D → R Ret := runD 3 1 ((sRet (eUn oAll (eFz (lLc [1, 2] (gT 2 (gsCons (setD 1) (gsCons (setD 2) gsNil))) bYes e_is_ascending_1 (iZip2 (getD 0) (eSlR (getB 0) (pSome (eC (.int 1))) pNone)))))))
def m_demand : List D → R Ret := runD 2 2 ((sIf (bNot (bVal (getB 0))) (sRaise "InvalidProgram" (getD 1)) sNx))
def e_words_from_1 : DL.Env → R D := (eCall m_is_word (aCons (getD 2) aNil))
def m_words_from : List D → R Ret := runD 3 2 ((sSeq (sExpr (eCall m_demand (aCons (eCall m_is_row_of (aCons (getD 0) (aCons (eC (.int 1)) (aCons (getD 1) aNil)))) (aCons (eC (.str "words must be a tuple with as many items as are allowed")) aNil)))) (sSeq (sExpr (eCall m_demand (aCons (eUn oAll (eFz (lLc [2] (setD 2) bYes e_words_from_1 (iSeq (getD 0))))) (aCons (eC (.str "a word has 1 to 8 letters from a to z")) aNil)))) (sSeq (sExpr (eCall m_demand (aCons (eCmp cEq (eUn oLenSet (getB 0)) (eUn oLen (getB 0))) (aCons (eC (.str "words that stand together must be different")) aNil)))) (sRet (eUn oTuple (getB 0)))))))
def e_channels_from_1 : DL.Env → R D := (eCall m_is_row_of (aCons (getD 2) (aCons (eC (.int 2)) (aCons (eC (.int 2)) aNil))))
def e_channels_from_2 : DL.Env → R D := (eOp oIx (getB 2) (eC (.int 0)))
def e_channels_from_3 : DL.Env → R D := (eTup (aCons (getD 3) (aCons (eCall m_words_from (aCons (eOp oIx (getB 2) (eC (.int 1))) (aCons (eC (.int 4)) aNil))) aNil)))
def m_channels_from : List D → R Ret := runD 4 1 ((sSeq (sExpr (eCall m_demand (aCons (eCall m_is_row_of (aCons (getD 0) (aCons (eC (.int 1)) (aCons (eC (.int 2)) aNil)))) (aCons (eC (.str "a program has 1 or 2 channels")) aNil)))) (sSeq (sExpr (eCall m_demand (aCons (eUn oAll (eFz (lLc [2] (setD 2) bYes e_channels_from_1 (iSeq (getD 0))))) (aCons (eC (.str "a channel stands in a pair with its signals")) aNil)))) (sSeq (sSet 1 (eCall m_words_from (aCons (eFz (lLc [2] (setD 2) bYes e_channels_from_2 (iSeq (getD 0)))) (aCons (eC (.int 2)) aNil)))) (sRet (eUn oTuple (eFz (lLc [3, 2] (gT 2 (gsCons (setD 3) (gsCons (setD 2) gsNil))) bYes e_channels_from_3 (iZip2 (getD 1) (getD 0))))))))))
def e_states_from_1 : DL.Env → R D := (eCall m_is_index (aCons (getD 1) (aCons (eOp oAdd (eC (.int 4)) (eC (.int 1))) aNil)))
def m_states_from : List D → R Ret := runD 2 1 ((sSeq (sExpr (eCall m_demand (aCons (eCall m_is_row_of (aCons (getD 0) (aCons (eC (.int 1)) (aCons (eC (.int 10)) aNil)))) (aCons (eC (.str "a program has 1 to 10 states")) aNil)))) (sSeq (sExpr (eCall m_demand (aCons (eUn oAll (eFz (lLc [1] (setD 1) bYes e_states_from_1 (iSeq (getD 0))))) (aCons (eC (.str "a state keeps 0 to 4 integers")) aNil)))) (sSeq (sExpr (eCall m_demand (aCons (eCmp cEq (eOp oIx (getB 0) (eC (.int 0))) (eC (.int 0))) (aCons (eC (.str "state 0 keeps nothing")) aNil)))) (sRet (eUn oTuple (getB 0)))))))
def e_sources_from_1 : DL.Env → R D := (eCall m_is_index (aCons (getD 3) (aCons (getD 2) aNil)))
def m_sources_from : List D → R Ret := runD 4 3 ((sSeq (sExpr (eCall m_demand (aCons (eCall m_is_row_of (aCons (getD 0) (aCons (getD 1) (aCons (getD 1) aNil)))) (aCons (eC (.str "there is a source for each integer that the target keeps")) aNil)))) (sSeq (sExpr (eCall m_demand (aCons (eUn oAll (eFz (lLc [3] (setD 3) bYes e_sources_from_1 (iSeq (getD 0))))) (aCons (eC (.str "a source is the index of a candidate")) aNil)))) (sSeq (sExpr (eCall m_demand (aCons (eCall m_is_ascending (aCons (getD 0) aNil)) (aCons (eC (.str "sources are strictly ascending")) aNil)))) (sRet (eUn oTuple (getB 0)))))))
def m_positions_among : List D → R Ret := runD 1 1 ((sRet (eOp oAdd (eOp oMul (eC (.int 2)) (getB 0)) (eC (.int 1)))))
def m_candidates_at : List D → R Ret := runD 2 2 ((sRet (eIf (bCmp cEq (eOp oMod (getB 1) (eC (.int 2))) (eC (.int 1))) (getD 0) (eOp oAdd (getB 0) (eC (.int 1))))))
def b_signals_of_1 : DL.Env → Option Out := (sIf (bCmp cEq (getB 2) (getB 1)) (sRet (getD 3)) sNx)
def m_signals_of : List D → R Ret := runD 4 2 ((sSeq (sFor (iSeq (eAttr "channels" (getB 0))) (gT 2 (gsCons (setD 2) (gsCons (setD 3) gsNil))) b_signals_of_1) (sRet (eTup aNil))))
def b_position_of_1 : DL.Env → Option Out := (sIf (bCmp cGt (getB 0) (getB 3)) (sAug 2 (eC (.int 2))) (sIf (bCmp cEq (getB 0) (getB 3)) (sAug 2 (eC (.int 1))) sNx))
def m_position_of : List D → R Ret := runD 4 2 ((sSeq (sSet 2 (eC (.int 0))) (sSeq (sFor (iSeq (getD 1)) (setD 3) b_position_of_1) (sRet (getD 2)))))
def m_candidates_of : List D → R Ret := runD 4 3 ((sSeq (sSetF 3 (lUn oList (getB 1))) (sSeq (sIf (bCmp cEq (eOp oMod (getB 2) (eC (.int 2))) (eC (.int 0))) (sIns 3 (eOp oDiv (getB 2) (eC (.int 2))) (getD 0)) sNx) (sRetOwn 3))))
def e_step_1 : DL.Env → R D := (eOp oIx (getB 9) (getB 12))
def e_step_2 : DL.Env → R D := (eTup (aCons (getD 13) (aCons (getD 14) (aCons (eOp oIx (getB 9) (getB 15)) aNil))))
def m_step : List D → R Ret := runD 16 3 ((sSeq (sAsg (getD 1) (gT 2 (gsCons (setD 3) (gsCons (setD 4) gsNil)))) (sSeq (sAsg (getD 2) (gT 2 (gsCons (setD 5) (gsCons (setD 6) gsNil)))) (sSeq (sSet 7 (eCall m_position_of (aCons (getD 6) (aCons (getD 4) aNil)))) (sSeq (sSet 8 (eOp oGet (eAttr "table" (getB 0)) (eTup (aCons (getD 3) (aCons (getD 5) (aCons (getD 7) aNil)))))) (sSeq (sSet 9 (eFz (lCall m_candidates_of (aCons (getD 6) (aCons (getD 4) (aCons (getD 7) aNil)))))) (sSeq (sSet 10 (eUn oTuple (eFz (lLc [12] (setD 12) bYes e_step_1 (iSeq (eOp oIx (getB 8) (eC (.int 4)))))))) (sSeq (sSet 11 (eUn oTuple (eFz (lLc [13, 14, 15] (gT 3 (gsCons (setD 13) (gsCons (setD 14) (gsCons (setD 15) gsNil)))) bYes e_step_2 (iSeq (eOp oIx (getB 8) (eC (.int 5)))))))) (sRet (eTup (aCons (eTup (aCons (eOp oIx (getB 8) (eC (.int 3))) (aCons (getD 10) aNil))) (aCons (getD 11) aNil))))))))))))
def m_names_of : List D → R Ret := runD 1 1 ((sRet (eAttr "names" (eOp oIx (eAttr "programs" (getB 0)) (eC (.int 0))))))
def e_is_configuration_1 : DL.Env → R D := (eCall m_is_integer (aCons (getD 4) aNil))
def m_is_configuration : List D → R Ret := runD 5 2 ((sSeq (sIf (bNot (bVal (eCall m_is_row_of (aCons (getD 1) (aCons (eC (.int 2)) (aCons (eC (.int 2)) aNil)))))) (sRet (eC (.bl false))) sNx) (sSeq (sAsg (getD 1) (gT 2 (gsCons (setD 2) (gsCons (setD 3) gsNil)))) (sSeq (sIf (bOr (bNot (bVal (eCall m_is_index (aCons (getD 2) (aCons (eUn oLen (eAttr "states" (getB 0))) aNil))))) (bOr (bNot (bVal (eCall m_is_row (aCons (getD 3) aNil)))) (bCmp cNe (eUn oLen (getB 3)) (eOp oIx (eAttr "states" (getB 0)) (getB 2))))) (sRet (eC (.bl false))) sNx) (sRet (eAnd (eUn oAll (eFz (lLc [4] (setD 4) bYes e_is_configuration_1 (iSeq (getD 3))))) (eCall m_is_ascending (aCons (getD 3) aNil))))))))
def e_is_beginning_1 : DL.Env → R D := (eCall m_is_configuration (aCons (getD 2) (aCons (getD 3) aNil)))
def m_is_beginning : List D → R Ret := runD 4 2 ((sSeq (sIf (bOr (bNot (bVal (eCall m_is_row (aCons (getD 1) aNil)))) (bCmp cNe (eUn oLen (getB 1)) (eUn oLen (eAttr "programs" (getB 0))))) (sRet (eC (.bl false))) sNx) (sRet (eUn oAll (eFz (lLc [2, 3] (gT 2 (gsCons (setD 2) (gsCons (setD 3) gsNil))) bYes e_is_beginning_1 (iZip2 (eAttr "programs" (getB 0)) (getD 1))))))))
def m_is_message : List D → R Ret := runD 2 2 ((sRet (eAnd (eCall m_is_row_of (aCons (getD 1) (aCons (eC (.int 2)) (aCons (eC (.int 2)) aNil)))) (eAnd (eCmp cInS (eOp oIx (getB 1) (eC (.int 0))) (eCall m_names_of (aCons (getD 0) aNil))) (eCall m_is_integer (aCons (eOp oIx (getB 1) (eC (.int 1))) aNil))))))
def e_is_input_1 : DL.Env → R D := (eCall m_is_message (aCons (getD 0) (aCons (getD 2) aNil)))
def m_is_input : List D → R Ret := runD 3 2 ((sRet (eAnd (eCall m_is_row (aCons (getD 1) aNil)) (eUn oAll (eFz (lLc [2] (setD 2) bYes e_is_input_1 (iSeq (getD 1))))))))
def b_heard_by_1 : DL.Env → Option Out := (sSeq (sAsg (eCall m_step (aCons (getD 0) (aCons (getD 3) (aCons (getD 5) aNil)))) (gT 2 (gsCons (setD 3) (gsCons (setD 6) gsNil)))) (sExt 4 (getD 6)))
def m_heard_by : List D → R Ret := runD 7 3 ((sSeq (sSet 3 (eTup (aCons (eOp oIx (getB 1) (eC (.int 0))) (aCons (eUn oTuple (eOp oIx (getB 1) (eC (.int 1)))) aNil)))) (sSeq (sSetF 4 (lLst aNil)) (sSeq (sFor (iSeq (getD 2)) (setD 5) b_heard_by_1) (sRet (eTup (aCons (getD 3) (aCons (eUn oTuple (getB 4)) aNil))))))))
def e_messages_on_1 : DL.Env → R D := (eTup (aCons (getD 3) (aCons (getD 4) aNil)))
def t_messages_on_1 : DL.Env → R Bool := (bCmp cEq (getB 2) (getB 1))
def m_messages_on : List D → R Ret := runD 5 2 ((sRetF (lLc [2, 3, 4] (gT 3 (gsCons (setD 2) (gsCons (setD 3) (gsCons (setD 4) gsNil)))) t_messages_on_1 e_messages_on_1 (iSeq (getD 0)))))
def b_chain_step_1 : DL.Env → Option Out := (sSeq (sAsg (eCall m_heard_by (aCons (getD 7) (aCons (eOp oIx (getB 1) (getB 6)) (aCons (getD 3) aNil)))) (gT 2 (gsCons (setD 8) (gsCons (setD 9) gsNil)))) (sSeq (sApp 4 (getD 8)) (sSeq (sApp 5 (eTup (aCons (eOp oIx (getB 8) (eC (.int 0))) (aCons (eOp oIx (getB 8) (eC (.int 1))) (aCons (getD 9) aNil))))) (sIf (bCmp cLt (getB 6) (eUn oLen (eAttr "links" (getB 0)))) (sSet 3 (eFz (lCall m_messages_on (aCons (getD 9) (aCons (eOp oIx (eAttr "links" (getB 0)) (getB 6)) aNil))))) sNx))))
def m_chain_step : List D → R Ret := runD 10 3 ((sSeq (sSet 3 (eFz (lLst (aCons (getD 2) aNil)))) (sSeq (sSetF 4 (lLst aNil)) (sSeq (sSetF 5 (lLst aNil)) (sSeq (sFor (iEnm (eAttr "programs" (getB 0))) (gT 2 (gsCons (setD 6) (gsCons (setD 7) gsNil))) b_chain_step_1) (sRet (eTup (aCons (eUn oTuple (getB 4)) (aCons (eUn oTuple (getB 5)) aNil)))))))))
def b_deed_from_1 : DL.Env → Option Out := (sSeq (sAsg (eCall m_chain_step (aCons (getD 0) (aCons (getD 4) (aCons (getD 5) aNil)))) (gT 2 (gsCons (setD 4) (gsCons (setD 6) gsNil)))) (sApp 3 (getD 6)))
def m_deed_from : List D → R Ret := runD 7 3 ((sSeq (sIf (bNot (bVal (eCall m_is_beginning (aCons (getD 0) (aCons (getD 1) aNil))))) (sRaise "InvalidBeginning" (eC (.str "a beginning has a configuration for each program of the chain"))) sNx) (sSeq (sIf (bNot (bVal (eCall m_is_input (aCons (getD 0) (aCons (getD 2) aNil))))) (sRaise "InvalidInput" (eC (.str "an input has messages with names that the chain hears"))) sNx) (sSeq (sSetF 3 (lLst aNil)) (sSeq (sSet 4 (getD 1)) (sSeq (sFor (iSeq (getD 2)) (setD 5) b_deed_from_1) (sRetOwn 3)))))))
def e_tuples_of_1 (rec_m : List D → R Ret) : DL.Env → R D := (eCall rec_m (aCons (getD 1) aNil))
def m_tuples_of : Nat → List D → R Ret
  | 0 => runD 2 1 (fun _ => none)
  | fuel + 1 => let rec_m := m_tuples_of fuel; runD 2 1 ((sSeq (sIf (bVal (eCall m_is_row (aCons (getD 0) aNil))) (sRet (eUn oTuple (eFz (lLc [1] (setD 1) bYes (e_tuples_of_1 rec_m) (iSeq (getD 0)))))) sNx) (sRet (getD 0))))
def e_integers_in_1 : DL.Env → R D := (eOp oIx (getB 5) (eC (.int 1)))
def m_integers_in : List D → R Ret := runD 6 2 ((sSeq (sSetFz 2 (lLcN [3, 4] ([3] ++ ([4] ++ [])) (lcN (setD 3) bYes (cNext (iSeq (eOp oIx (getB 3) (eC (.int 1)))) ([4] ++ []) (lcN (setD 4) bYes (cElt (getD 4))))) (iSeq (getD 0)))) (sRetF (lUn oSetSorted (eFz (lOp oCat (getB 2) (eFz (lLc [5] (setD 5) bYes e_integers_in_1 (iSeq (getD 1))))))))))
def e_ranks_of_1 : DL.Env → R D := (getD 2)
def e_ranks_of_2 : DL.Env → R D := (getD 1)
def m_ranks_of : List D → R Ret := runD 3 1 ((sRet (eDc [1, 2] (gT 2 (gsCons (setD 1) (gsCons (setD 2) gsNil))) bYes e_ranks_of_1 e_ranks_of_2 (iEnm (getD 0)))))
def e_beginning_with_1 : DL.Env → R D := (eIxG (getB 1) (getD 4))
def e_beginning_with_2 : DL.Env → R D := (eTup (aCons (getD 2) (aCons (eUn oTuple (eFz (lLc [4] (setD 4) bYes e_beginning_with_1 (iSeq (getD 3))))) aNil)))
def m_beginning_with : List D → R Ret := runD 5 2 ((sRet (eUn oTuple (eFz (lLc [2, 3] (gT 2 (gsCons (setD 2) (gsCons (setD 3) gsNil))) bYes e_beginning_with_2 (iSeq (getD 0)))))))
def e_messages_with_1 : DL.Env → R D := (eTup (aCons (getD 2) (aCons (eIxG (getB 1) (getD 3)) aNil)))
def m_messages_with : List D → R Ret := runD 4 2 ((sRet (eUn oTuple (eFz (lLc [2, 3] (gT 2 (gsCons (setD 2) (gsCons (setD 3) gsNil))) bYes e_messages_with_1 (iSeq (getD 0)))))))
def e_part_with_1 : DL.Env → R D := (eIxG (getB 1) (getD 6))
def e_part_with_2 : DL.Env → R D := (eTup (aCons (getD 7) (aCons (getD 8) (aCons (eIxG (getB 1) (getD 6)) aNil))))
def m_part_with : List D → R Ret := runD 9 2 ((sSeq (sAsg (getD 0) (gT 3 (gsCons (setD 2) (gsCons (setD 3) (gsCons (setD 4) gsNil))))) (sSeq (sSet 5 (eUn oTuple (eFz (lLc [6] (setD 6) bYes e_part_with_1 (iSeq (getD 3)))))) (sRet (eTup (aCons (getD 2) (aCons (getD 5) (aCons (eUn oTuple (eFz (lLc [7, 8, 6] (gT 3 (gsCons (setD 7) (gsCons (setD 8) (gsCons (setD 6) gsNil)))) bYes e_part_with_2 (iSeq (getD 4))))) aNil))))))))
def e_steps_with_1 : DL.Env → R D := (eCall m_part_with (aCons (getD 3) (aCons (getD 1) aNil)))
def e_steps_with_2 : DL.Env → R D := (eUn oTuple (eFz (lLc [3] (setD 3) bYes e_steps_with_1 (iSeq (getD 2)))))
def m_steps_with : List D → R Ret := runD 4 2 ((sRetF (lLc [2] (setD 2) bYes e_steps_with_2 (iSeq (getD 0)))))
def m_ranked : List D → R Ret := runD 3 2 ((sSeq (sSet 2 (eCall m_ranks_of (aCons (eFz (lCall m_integers_in (aCons (getD 0) (aCons (getD 1) aNil)))) aNil))) (sRet (eTup (aCons (eCall m_beginning_with (aCons (getD 0) (aCons (getD 2) aNil))) (aCons (eCall m_messages_with (aCons (getD 1) (aCons (getD 2) aNil))) aNil))))))
def m_is_class_input : List D → R Ret := runD 2 2 ((sRet (eAnd (eCall m_is_row_of (aCons (getD 1) (aCons (eC (.int 1)) (aCons (eC (.int 40)) aNil)))) (eCall m_is_input (aCons (getD 0) (aCons (getD 1) aNil))))))
def m_demand_class_input : List D → R Ret := runD 2 2 ((sIf (bNot (bVal (eCall m_is_class_input (aCons (getD 0) (aCons (getD 1) aNil))))) (sRaise "InvalidInput" (eC (.str "an input that has a class has 1 to 40 messages with names that the chain hears"))) sNx))
def m_class_of : List D → R Ret := runD 3 3 ((sSeq (sIf (bNot (bVal (eCall m_is_beginning (aCons (getD 0) (aCons (getD 1) aNil))))) (sRaise "InvalidBeginning" (eC (.str "a beginning has a configuration for each program of the chain"))) sNx) (sSeq (sExpr (eCall m_demand_class_input (aCons (getD 0) (aCons (getD 2) aNil)))) (sRet (eCall m_ranked (aCons (getD 1) (aCons (getD 2) aNil)))))))
def m_is_class : List D → R Ret := runD 3 2 ((sSeq (sIf (bOr (bNot (bVal (eCall m_is_row_of (aCons (getD 1) (aCons (eC (.int 2)) (aCons (eC (.int 2)) aNil)))))) (bOr (bNot (bVal (eCall m_is_beginning (aCons (getD 0) (aCons (eOp oIx (getB 1) (eC (.int 0))) aNil))))) (bNot (bVal (eCall m_is_class_input (aCons (getD 0) (aCons (eOp oIx (getB 1) (eC (.int 1))) aNil))))))) (sRet (eC (.bl false))) sNx) (sSeq (sSet 2 (eFz (lCall m_integers_in (aCons (eOp oIx (getB 1) (eC (.int 0))) (aCons (eOp oIx (getB 1) (eC (.int 1))) aNil))))) (sRet (eCmp cEq (getB 2) (eFz (lUn oRange (eUn oLen (getB 2)))))))))
def m_class_from : List D → R Ret := runD 2 2 ((sSeq (sIf (bNot (bVal (eCall m_is_class (aCons (getD 0) (aCons (getD 1) aNil))))) (sRaise "InvalidClass" (eC (.str "a class has a beginning and 1 to 40 messages, with the integers 0, 1, 2 and so on"))) sNx) (sRet (eCall (m_tuples_of 8) (aCons (getD 1) aNil)))))
def m_is_possible_output : List D → R Ret := runD 6 3 ((sSeq (sIf (bNot (bVal (eCall m_is_row_of (aCons (getD 2) (aCons (eC (.int 3)) (aCons (eC (.int 3)) aNil)))))) (sRet (eC (.bl false))) sNx) (sSeq (sAsg (getD 2) (gT 3 (gsCons (setD 3) (gsCons (setD 4) (gsCons (setD 5) gsNil))))) (sRet (eAnd (eCmp cInS (getB 4) (eCall m_signals_of (aCons (getD 0) (aCons (getD 3) aNil)))) (eCall m_is_index (aCons (getD 5) (aCons (getD 1) aNil))))))))
def e_is_possible_part_1 : DL.Env → R D := (eCall m_is_index (aCons (getD 5) (aCons (getD 1) aNil)))
def e_is_possible_part_2 : DL.Env → R D := (eCall m_is_possible_output (aCons (getD 0) (aCons (getD 1) (aCons (getD 4) aNil))))
def m_is_possible_part : List D → R Ret := runD 6 4 ((sSeq (sIf (bOr (bNot (bVal (eCall m_is_row_of (aCons (getD 3) (aCons (eC (.int 3)) (aCons (eC (.int 3)) aNil)))))) (bNot (bVal (eCall m_is_configuration (aCons (getD 0) (aCons (eSlR (getB 3) pNone (pSome (eC (.int 2)))) aNil)))))) (sRet (eC (.bl false))) sNx) (sSeq (sIf (bOr (bNot (bVal (eUn oAll (eFz (lLc [5] (setD 5) bYes e_is_possible_part_1 (iSeq (eOp oIx (getB 3) (eC (.int 1))))))))) (bNot (bVal (eCall m_is_row_of (aCons (eOp oIx (getB 3) (eC (.int 2))) (aCons (eC (.int 0)) (aCons (getD 2) aNil))))))) (sRet (eC (.bl false))) sNx) (sRet (eUn oAll (eFz (lLc [4] (setD 4) bYes e_is_possible_part_2 (iSeq (eOp oIx (getB 3) (eC (.int 2)))))))))))
def b_is_possible_step_1 : DL.Env → Option Out := (sSeq (sSet 3 (eOp oMul (getB 3) (eC (.int 3)))) (sIf (bNot (bVal (eCall m_is_possible_part (aCons (getD 4) (aCons (getD 1) (aCons (getD 3) (aCons (getD 5) aNil))))))) (sRet (eC (.bl false))) sNx))
def m_is_possible_step : List D → R Ret := runD 6 3 ((sSeq (sIf (bOr (bNot (bVal (eCall m_is_row (aCons (getD 2) aNil)))) (bCmp cNe (eUn oLen (getB 2)) (eUn oLen (eAttr "programs" (getB 0))))) (sRet (eC (.bl false))) sNx) (sSeq (sSet 3 (eC (.int 1))) (sSeq (sFor (iZip2 (eAttr "programs" (getB 0)) (getD 2)) (gT 2 (gsCons (setD 4) (gsCons (setD 5) gsNil))) b_is_possible_step_1) (sRet (eC (.bl true)))))))
def e_is_deed_1 : DL.Env → R D := (eCall m_is_possible_step (aCons (getD 0) (aCons (getD 5) (aCons (getD 6) aNil))))
def m_is_deed : List D → R Ret := runD 7 3 ((sSeq (sAsg (getD 1) (gT 2 (gsCons (setD 3) (gsCons (setD 4) gsNil)))) (sSeq (sIf (bOr (bNot (bVal (eCall m_is_row (aCons (getD 2) aNil)))) (bCmp cNe (eUn oLen (getB 2)) (eUn oLen (getB 4)))) (sRet (eC (.bl false))) sNx) (sSeq (sSet 5 (eUn oLen (eFz (lCall m_integers_in (aCons (getD 3) (aCons (getD 4) aNil)))))) (sRet (eUn oAll (eFz (lLc [6] (setD 6) bYes e_is_deed_1 (iSeq (getD 2))))))))))
def m_demand_deed : List D → R Ret := runD 3 3 ((sIf (bNot (bVal (eCall m_is_deed (aCons (getD 0) (aCons (getD 1) (aCons (getD 2) aNil)))))) (sRaise "InvalidDeed" (eC (.str "a deed has a step for each message, in ranks of the class"))) sNx))
def m_deed_of : List D → R Ret := runD 4 2 ((sSeq (sAsg (eCall m_class_from (aCons (getD 0) (aCons (getD 1) aNil))) (gT 2 (gsCons (setD 2) (gsCons (setD 3) gsNil)))) (sRetF (lCall m_deed_from (aCons (getD 0) (aCons (getD 2) (aCons (getD 3) aNil)))))))
def m_served : List D → R Ret := runD 4 4 ((sSeq (sExpr (eCall m_demand_deed (aCons (getD 0) (aCons (eCall m_class_of (aCons (getD 0) (aCons (getD 1) (aCons (getD 2) aNil)))) (aCons (getD 3) aNil))))) (sRetF (lCall m_steps_with (aCons (getD 3) (aCons (eFz (lCall m_integers_in (aCons (getD 1) (aCons (getD 2) aNil)))) aNil))))))
def m__law_cell : List D → R Ret := runD 2 2 ((sSeq (sIf (bCmp cLt (getB 1) (eUn oLen (getB 0))) (sRet (eOp oIx (getB 0) (getB 1))) sNx) (sRet (eC (.int 0)))))
def b__law_row_1 : DL.Env → Option Out := (sIf (bCmp cGe (getB 0) (eOp oPow (eC (.int 10)) (eC (.int 18)))) (sSeq (sApp 2 (eOp oMod (eUn oInt (getB 3)) (eC (.int 840)))) (sSet 3 (eOp oDiv (getB 3) (eC (.int 840))))) (sSeq (sSet 4 (eOp oMod (eUn oInt (eOp oAdd (eOp oMul (getB 4) (eC (.int 48271))) (getB 5))) (eC (.int 2147483647)))) (sApp 2 (eOp oMod (eOp oDiv (eOp oMod (eUn oInt (eOp oMul (getB 4) (eC (.int 69621)))) (eC (.int 2147483629))) (eC (.int 7))) (eC (.int 840))))))
def m__law_row : List D → R Ret := runD 6 2 ((sSeq (sSetF 2 (lLst aNil)) (sSeq (sSet 3 (getD 0)) (sSeq (sSet 4 (eOp oAdd (eOp oMod (eUn oInt (getB 0)) (eC (.int 2147483629))) (eC (.int 1)))) (sSeq (sFor (iR1 (getB 1)) (setD 5) b__law_row_1) (sRetOwn 2))))))
def m__law_word : List D → R Ret := runD 3 1 ((sSeq (sSet 1 (eC (.str "abcdefghijklmnopqrstuvwxyz"))) (sSeq (sSet 2 (eOp oIx (getB 1) (eOp oMod (getB 0) (eC (.int 26))))) (sSeq (sIf (bCmp cGt (eOp oMod (eOp oDiv (getB 0) (eC (.int 26))) (eC (.int 3))) (eC (.int 0))) (sSet 2 (eOp oAdd (getB 2) (eOp oIx (getB 1) (eOp oMod (eOp oDiv (getB 0) (eC (.int 3))) (eC (.int 26)))))) sNx) (sSeq (sIf (bCmp cEq (eOp oMod (eOp oDiv (getB 0) (eC (.int 26))) (eC (.int 3))) (eC (.int 2))) (sSet 2 (eOp oAdd (eOp oAdd (eOp oAdd (getB 2) (eOp oIx (getB 1) (eOp oMod (eOp oDiv (getB 0) (eC (.int 5))) (eC (.int 26))))) (eOp oIx (getB 1) (eOp oMod (eOp oDiv (getB 0) (eC (.int 11))) (eC (.int 26))))) (eOp oIx (getB 1) (eOp oMod (eOp oDiv (getB 0) (eC (.int 2))) (eC (.int 26)))))) sNx) (sRet (getD 2)))))))
def b__law_words_1 : DL.Env → Option Out := (sIf (bCmp cInS (getB 3) (getB 1)) (sSet 3 (eOp oAdd (getB 3) (eC (.str "q")))) sNx)
def b__law_words_2 : DL.Env → Option Out := (sSeq (sSet 3 (eCall m__law_word (aCons (eOp oIx (getB 0) (getB 2)) aNil))) (sSeq (sFor (iR1 (eC (.int 4))) (setD 4) b__law_words_1) (sApp 1 (getD 3))))
def m__law_words : List D → R Ret := runD 5 1 ((sSeq (sSetF 1 (lLst aNil)) (sSeq (sFor (iR1 (eOp oIx (eFz (lLst (aCons (eC (.int 1)) (aCons (eC (.int 2)) (aCons (eC (.int 1)) (aCons (eC (.int 2)) (aCons (eC (.int 1)) (aCons (eC (.int 2)) (aCons (eC (.int 3)) (aCons (eC (.int 4)) aNil)))))))))) (eOp oMod (eOp oIx (getB 0) (eC (.int 3))) (eC (.int 8))))) (setD 2) b__law_words_2) (sRet (eUn oTuple (getB 1))))))
def b__law_sources_1 : DL.Env → Option Out := (sSeq (sSet 5 (eOp oMod (eOp oDiv (getB 2) (eOp oAdd (eC (.int 1)) (eOp oMul (eC (.int 5)) (getB 4)))) (eUn oLen (getB 3)))) (sSet 3 (eFz (lOp oCat (eFz (lSl (getB 3) pNone (pSome (getB 5)))) (eFz (lSl (getB 3) (pSome (eOp oAdd (getB 5) (eC (.int 1)))) pNone))))))
def m__law_sources : List D → R Ret := runD 6 3 ((sSeq (sSet 3 (eFz (lUn oRange (getB 0)))) (sSeq (sFor (iR1 (eOp oSub (getB 0) (getB 1))) (setD 4) b__law_sources_1) (sRet (eUn oTuple (getB 3))))))
def b__law_outputs_1 : DL.Env → Option Out := (sSeq (sSet 6 (eOp oIx (getB 0) (eOp oMod (eOp oDiv (getB 2) (eOp oAdd (eC (.int 6)) (eOp oMul (eC (.int 2)) (getB 5)))) (eUn oLen (getB 0))))) (sApp 4 (eTup (aCons (eOp oIx (getB 6) (eC (.int 0))) (aCons (eOp oIx (eOp oIx (getB 6) (eC (.int 1))) (eOp oMod (eOp oDiv (getB 2) (eOp oAdd (eC (.int 10)) (getB 5))) (eUn oLen (eOp oIx (getB 6) (eC (.int 1)))))) (aCons (eOp oMod (eOp oAdd (getB 3) (getB 5)) (getB 1)) aNil))))))
def m__law_outputs : List D → R Ret := runD 7 4 ((sSeq (sSetF 4 (lLst aNil)) (sSeq (sFor (iR1 (eOp oIx (eFz (lLst (aCons (eC (.int 0)) (aCons (eC (.int 1)) (aCons (eC (.int 1)) (aCons (eC (.int 0)) (aCons (eC (.int 2)) (aCons (eC (.int 3)) aNil)))))))) (eOp oMod (getB 2) (eC (.int 6))))) (setD 5) b__law_outputs_1) (sRet (eUn oTuple (getB 4))))))
def e__law_keys_1 : DL.Env → R D := (eTup (aCons (getD 3) (aCons (getD 4) (aCons (getD 5) aNil))))
def b__law_keys_1 : DL.Env → Option Out := (sSet 2 (eFz (lOp oCat (getB 2) (eFz (lLc [5] (setD 5) bYes e__law_keys_1 (iR1 (eOp oAdd (eOp oMul (eC (.int 2)) (eOp oIx (getB 1) (getB 3))) (eC (.int 1)))))))))
def b__law_keys_2 : DL.Env → Option Out := (sFor (iSeq (getD 0)) (setD 4) b__law_keys_1)
def m__law_keys : List D → R Ret := runD 6 2 ((sSeq (sSet 2 (eFz (lLst aNil))) (sSeq (sFor (iR1 (eUn oLen (getB 1))) (setD 3) b__law_keys_2) (sRet (getD 2)))))
def e__law_program_1 : DL.Env → R D := (getD 12)
def t__law_program_1 : DL.Env → R Bool := (bCmp cLe (eOp oIx (getB 3) (getB 12)) (getB 8))
def b__law_program_1 : DL.Env → Option Out := (sSeq (sSet 7 (eFz (lSl (getB 2) (pSome (eOp oAdd (eC (.int 4)) (eOp oMul (eC (.int 4)) (eUn oLen (getB 5))))) (pSome (eOp oAdd (eC (.int 8)) (eOp oMul (eC (.int 4)) (eUn oLen (getB 5)))))))) (sSeq (sSet 8 (eOp oSub (eOp oAdd (eOp oIx (getB 3) (eOp oIx (getB 6) (eC (.int 0)))) (eC (.int 1))) (eOp oMod (eOp oIx (getB 6) (eC (.int 2))) (eC (.int 2))))) (sSeq (sSetFz 9 (lLc [12] (setD 12) t__law_program_1 e__law_program_1 (iR1 (eUn oLen (getB 3))))) (sSeq (sSet 10 (eOp oIx (getB 9) (eOp oMod (eOp oIx (getB 7) (eC (.int 0))) (eUn oLen (getB 9))))) (sSeq (sSet 11 (eTup aNil)) (sSeq (sIf (bCmp cGt (getB 8) (eC (.int 0))) (sSet 11 (eCall m__law_outputs (aCons (getD 4) (aCons (getD 8) (aCons (eOp oIx (getB 7) (eC (.int 2))) (aCons (eOp oIx (getB 7) (eC (.int 3))) aNil)))))) sNx) (sApp 5 (eOp oAdd (getB 6) (eTup (aCons (getD 10) (aCons (eCall m__law_sources (aCons (getD 8) (aCons (eOp oIx (getB 3) (getB 10)) (aCons (eOp oIx (getB 7) (eC (.int 1))) aNil)))) (aCons (getD 11) aNil))))))))))))
def m__law_program : List D → R Ret := runD 13 2 ((sSeq (sSet 2 (eFz (lCall m__law_row (aCons (getD 0) (aCons (eC (.int 220)) aNil))))) (sSeq (sSet 3 (eSlT (eTup (aCons (eC (.int 0)) (aCons (eOp oMod (eOp oIx (getB 2) (eC (.int 0))) (eC (.int 3))) (aCons (eOp oMod (eOp oIx (getB 2) (eC (.int 1))) (eC (.int 3))) aNil)))) pNone (pSome (eOp oAdd (eC (.int 1)) (eOp oMod (eOp oIx (getB 2) (eC (.int 2))) (eOp oIx (eFz (lLst (aCons (eC (.int 3)) (aCons (eC (.int 2)) (aCons (eC (.int 2)) (aCons (eC (.int 1)) aNil)))))) (eOp oSub (eUn oLen (getB 1)) (eC (.int 1))))))))) (sSeq (sIf (bCmp cEq (eOp oMod (eOp oIx (getB 2) (eC (.int 1))) (eC (.int 9))) (eC (.int 8))) (sSet 3 (eSlT (eTup (aCons (eC (.int 0)) (aCons (eC (.int 1)) (aCons (eC (.int 2)) (aCons (eC (.int 3)) (aCons (eC (.int 4)) aNil)))))) pNone (pSome (eOp oIx (eFz (lLst (aCons (eOp oAdd (eC (.int 4)) (eOp oMod (eOp oIx (getB 2) (eC (.int 0))) (eC (.int 2)))) (aCons (eC (.int 3)) aNil)))) (eOp oDiv (eUn oLen (getB 1)) (eC (.int 3))))))) sNx) (sSeq (sSet 4 (eFz (lSl (eFz (lLst (aCons (eTup (aCons (eC (.str "out")) (aCons (eCall m__law_words (aCons (eFz (lSl (getB 2) (pSome (eC (.int 210))) (pSome (eC (.int 214))))) aNil)) aNil))) (aCons (eTup (aCons (eOp oIx (eFz (lLst (aCons (eC (.str "more")) (aCons (eC (.str "other")) (aCons (eC (.str "ou")) (aCons (eC (.str "oat")) (aCons (eC (.str "tuo")) aNil))))))) (eOp oMod (eOp oIx (getB 2) (eC (.int 5))) (eC (.int 5)))) (aCons (eCall m__law_words (aCons (eFz (lSl (getB 2) (pSome (eC (.int 214))) (pSome (eC (.int 218))))) aNil)) aNil))) aNil)))) pNone (pSome (eOp oAdd (eC (.int 1)) (eOp oMod (eOp oIx (getB 2) (eC (.int 3))) (eC (.int 2)))))))) (sSeq (sSetF 5 (lLst aNil)) (sSeq (sFor (iSeq (eCall m__law_keys (aCons (getD 1) (aCons (getD 3) aNil)))) (setD 6) b__law_program_1) (sRetF (lLst (aCons (getD 1) (aCons (eUn oTuple (getB 4)) (aCons (getD 3) (aCons (eUn oTuple (getB 5)) aNil)))))))))))))
def b__law_chain_plan_1 : DL.Env → Option Out := (sSeq (sSet 5 (eOp oIx (eOp oIx (eOp oIx (getB 2) (eUn oNeg (eC (.int 1)))) (eC (.int 1))) (eOp oMod (eOp oIx (getB 1) (eOp oAdd (eC (.int 5)) (getB 4))) (eUn oLen (eOp oIx (eOp oIx (getB 2) (eUn oNeg (eC (.int 1)))) (eC (.int 1))))))) (sSeq (sApp 3 (eOp oIx (getB 5) (eC (.int 0)))) (sApp 2 (eFz (lCall m__law_program (aCons (eOp oAdd (eOp oDiv (eCall m__law_cell (aCons (getD 0) (aCons (eC (.int 2)) aNil))) (eOp oAdd (eC (.int 1)) (getB 4))) (eOp oMul (eC (.int 3)) (getB 4))) (aCons (eOp oIx (getB 5) (eC (.int 1))) aNil)))))))
def m__law_chain_plan : List D → R Ret := runD 6 1 ((sSeq (sSet 1 (eFz (lCall m__law_row (aCons (eCall m__law_cell (aCons (getD 0) (aCons (eC (.int 0)) aNil))) (aCons (eC (.int 8)) aNil))))) (sSeq (sSetF 2 (lLst (aCons (eFz (lCall m__law_program (aCons (eCall m__law_cell (aCons (getD 0) (aCons (eC (.int 1)) aNil))) (aCons (eCall m__law_words (aCons (eFz (lSl (getB 1) pNone (pSome (eC (.int 4))))) aNil)) aNil)))) aNil))) (sSeq (sSetF 3 (lLst aNil)) (sSeq (sFor (iR1 (eOp oMod (eOp oIx (getB 1) (eC (.int 4))) (eC (.int 3)))) (setD 4) b__law_chain_plan_1) (sFrz 3 (sFrz 2 (sRetF (lLst (aCons (getD 2) (aCons (getD 3) aNil)))))))))))
def e__law_position_1 : DL.Env → R D := (getD 3)
def t__law_position_1 : DL.Env → R Bool := (bCmp cLt (getB 3) (getB 0))
def e__law_position_2 : DL.Env → R D := (getD 3)
def t__law_position_2 : DL.Env → R Bool := (bCmp cEq (getB 3) (getB 0))
def m__law_position : List D → R Ret := runD 4 2 ((sSeq (sSet 2 (eUn oLen (eFz (lLc [3] (setD 3) t__law_position_1 e__law_position_1 (iSeq (getD 1)))))) (sRet (eOp oAdd (eOp oMul (eC (.int 2)) (getB 2)) (eUn oLen (eFz (lLc [3] (setD 3) t__law_position_2 e__law_position_2 (iSeq (getD 1)))))))))
def e__law_step_1 : DL.Env → R D := (eTup (aCons (eOp oIx (getB 7) (eC (.int 0))) (aCons (eOp oIx (getB 7) (eC (.int 1))) (aCons (eOp oIx (getB 4) (eOp oIx (getB 7) (eC (.int 2)))) aNil))))
def e__law_step_2 : DL.Env → R D := (eOp oIx (getB 4) (getB 8))
def b__law_step_1 : DL.Env → Option Out := (sIf (bAnd (bCmp cEq (eOp oIx (getB 5) (eC (.int 0))) (eOp oIx (getB 1) (eC (.int 0)))) (bAnd (bCmp cEq (eOp oIx (getB 5) (eC (.int 1))) (eOp oIx (getB 2) (eC (.int 0)))) (bCmp cEq (eOp oIx (getB 5) (eC (.int 2))) (getB 3)))) (sSeq (sSet 6 (eUn oTuple (eFz (lLc [7] (setD 7) bYes e__law_step_1 (iSeq (eOp oIx (getB 5) (eC (.int 5)))))))) (sRetF (lLst (aCons (eTup (aCons (eOp oIx (getB 5) (eC (.int 3))) (aCons (eUn oTuple (eFz (lLc [8] (setD 8) bYes e__law_step_2 (iSeq (eOp oIx (getB 5) (eC (.int 4))))))) aNil))) (aCons (getD 6) aNil))))) sNx)
def m__law_step : List D → R Ret := runD 9 3 ((sSeq (sSet 3 (eCall m__law_position (aCons (eOp oIx (getB 2) (eC (.int 1))) (aCons (eOp oIx (getB 1) (eC (.int 1))) aNil)))) (sSeq (sSet 4 (eFz (lUn oSorted (eFz (lOp oCat (eFz (lUn oList (eOp oIx (getB 1) (eC (.int 1))))) (eFz (lSl (eFz (lLst (aCons (eOp oIx (getB 2) (eC (.int 1))) aNil))) pNone (pSome (eOp oSub (eC (.int 1)) (eOp oMod (getB 3) (eC (.int 2)))))))))))) (sSeq (sFor (iSeq (eOp oIx (getB 0) (eC (.int 3)))) (setD 5) b__law_step_1) (sRetF (lLst (aCons (getD 1) (aCons (eTup aNil) aNil))))))))
def b__law_chain_step_1 : DL.Env → Option Out := (sSeq (sAsg (eFz (lCall m__law_step (aCons (eOp oIx (eOp oIx (getB 0) (eC (.int 0))) (getB 6)) (aCons (getD 7) (aCons (getD 9) aNil))))) (gT 2 (gsCons (setD 7) (gsCons (setD 10) gsNil)))) (sSet 8 (eOp oAdd (getB 8) (getB 10))))
def e__law_chain_step_1 : DL.Env → R D := (eTup (aCons (eOp oIx (getB 11) (eC (.int 1))) (aCons (eOp oIx (getB 11) (eC (.int 2))) aNil)))
def t__law_chain_step_1 : DL.Env → R Bool := (bCmp cEq (eOp oIx (getB 11) (eC (.int 0))) (eOp oIx (eOp oIx (getB 0) (eC (.int 1))) (getB 6)))
def b__law_chain_step_2 : DL.Env → Option Out := (sSeq (sSet 7 (eOp oIx (getB 1) (getB 6))) (sSeq (sSet 8 (eTup aNil)) (sSeq (sFor (iSeq (getD 3)) (setD 9) b__law_chain_step_1) (sSeq (sApp 4 (getD 7)) (sSeq (sApp 5 (eTup (aCons (eOp oIx (getB 7) (eC (.int 0))) (aCons (eOp oIx (getB 7) (eC (.int 1))) (aCons (getD 8) aNil))))) (sIf (bCmp cLt (getB 6) (eUn oLen (eOp oIx (getB 0) (eC (.int 1))))) (sSetFz 3 (lLc [11] (setD 11) t__law_chain_step_1 e__law_chain_step_1 (iSeq (getD 8)))) sNx))))))
def m__law_chain_step : List D → R Ret := runD 12 3 ((sSeq (sSet 3 (eFz (lLst (aCons (getD 2) aNil)))) (sSeq (sSetF 4 (lLst aNil)) (sSeq (sSetF 5 (lLst aNil)) (sSeq (sFor (iR1 (eUn oLen (eOp oIx (getB 0) (eC (.int 0))))) (setD 6) b__law_chain_step_2) (sRetF (lLst (aCons (eUn oTuple (getB 4)) (aCons (eUn oTuple (getB 5)) aNil)))))))))
def b__law_deed_1 : DL.Env → Option Out := (sSeq (sAsg (eFz (lCall m__law_chain_step (aCons (getD 0) (aCons (getD 1) (aCons (getD 4) aNil))))) (gT 2 (gsCons (setD 1) (gsCons (setD 5) gsNil)))) (sApp 3 (getD 5)))
def m__law_deed : List D → R Ret := runD 6 3 ((sSeq (sSetF 3 (lLst aNil)) (sSeq (sFor (iSeq (getD 2)) (setD 4) b__law_deed_1) (sFrz 3 (sRetF (lLst (aCons (getD 3) (aCons (getD 1) aNil))))))))
def e__law_start_1 : DL.Env → R D := (eTup (aCons (eC (.int 0)) (aCons (eTup aNil) aNil)))
def m__law_start : List D → R Ret := runD 2 1 ((sRet (eUn oTuple (eFz (lLc [1] (setD 1) bYes e__law_start_1 (iSeq (eOp oIx (getB 0) (eC (.int 0)))))))))
def b__law_input_1 : DL.Env → Option Out := (sApp 3 (eTup (aCons (eOp oIx (getB 4) (eOp oMod (getB 5) (eUn oLen (getB 4)))) (aCons (eOp oSub (eOp oMod (eOp oDiv (getB 5) (eC (.int 4))) (eOp oIx (eFz (lLst (aCons (eC (.int 6)) (aCons (eC (.int 200)) aNil)))) (eUn oInt (eCmp cEq (eOp oMod (eUn oInt (getB 1)) (eC (.int 5))) (eC (.int 1)))))) (eC (.int 2))) aNil))))
def e__law_input_1 : DL.Env → R D := (eTup (aCons (eOp oIx (getB 6) (eC (.int 0))) (aCons (eOp oAdd (eOp oMul (eOp oIx (getB 6) (eC (.int 1))) (eC (.int 1000003))) (eC (.int 17))) aNil)))
def m__law_input : List D → R Ret := runD 7 3 ((sSeq (sSetF 3 (lLst aNil)) (sSeq (sSet 4 (eOp oIx (eOp oIx (eOp oIx (getB 0) (eC (.int 0))) (eC (.int 0))) (eC (.int 0)))) (sSeq (sFor (iSeq (eFz (lCall m__law_row (aCons (getD 1) (aCons (getD 2) aNil))))) (setD 5) b__law_input_1) (sSeq (sIf (bCmp cEq (eOp oMod (eUn oInt (getB 1)) (eC (.int 3))) (eC (.int 0))) (sFrz 3 (sSetF 3 (lLc [6] (setD 6) bYes e__law_input_1 (iSeq (getD 3))))) sNx) (sRetOwn 3))))))
def b__law_beginning_1 : DL.Env → Option Out := (sApp 7 (eOp oAdd (eOp oSub (eOp oMod (eOp oIx (getB 2) (eOp oAdd (eOp oAdd (eOp oMul (eC (.int 8)) (getB 4)) (eC (.int 1))) (getB 8))) (eC (.int 5))) (eC (.int 2))) (eOp oMul (eC (.int 7)) (getB 8))))
def b__law_beginning_2 : DL.Env → Option Out := (sSeq (sSet 5 (eOp oIx (eOp oIx (eOp oIx (getB 0) (eC (.int 0))) (getB 4)) (eC (.int 2)))) (sSeq (sSet 6 (eOp oMod (eOp oIx (getB 2) (eOp oMul (eC (.int 8)) (getB 4))) (eUn oLen (getB 5)))) (sSeq (sSetF 7 (lLst aNil)) (sSeq (sFor (iR1 (eOp oIx (getB 5) (getB 6))) (setD 8) b__law_beginning_1) (sApp 3 (eTup (aCons (getD 6) (aCons (eUn oTuple (getB 7)) aNil))))))))
def m__law_beginning : List D → R Ret := runD 9 2 ((sSeq (sSet 2 (eFz (lCall m__law_row (aCons (getD 1) (aCons (eC (.int 24)) aNil))))) (sSeq (sSetF 3 (lLst aNil)) (sSeq (sFor (iR1 (eUn oLen (eOp oIx (getB 0) (eC (.int 0))))) (setD 4) b__law_beginning_2) (sRet (eUn oTuple (getB 3)))))))
def e__law_integers_1 : DL.Env → R D := (getD 5)
def t__law_integers_1 : DL.Env → R Bool := (bCmp cNotInA (getB 5) (getB 2))
def b__law_integers_1 : DL.Env → Option Out := (sSetF 2 (lOp oCat (getB 2) (eFz (lLc [5] (setD 5) t__law_integers_1 e__law_integers_1 (iSeq (eOp oIx (getB 3) (eC (.int 1))))))))
def b__law_integers_2 : DL.Env → Option Out := (sIf (bCmp cNotInA (eOp oIx (getB 4) (eC (.int 1))) (getB 2)) (sApp 2 (eOp oIx (getB 4) (eC (.int 1)))) sNx)
def m__law_integers : List D → R Ret := runD 6 2 ((sSeq (sSetF 2 (lLst aNil)) (sSeq (sFor (iSeq (getD 0)) (setD 3) b__law_integers_1) (sSeq (sFor (iSeq (getD 1)) (setD 4) b__law_integers_2) (sRetF (lUn oSorted (getB 2)))))))
def e__law_rank_1 : DL.Env → R D := (getD 2)
def t__law_rank_1 : DL.Env → R Bool := (bCmp cLt (getB 2) (getB 1))
def m__law_rank : List D → R Ret := runD 3 2 ((sRet (eUn oLen (eFz (lLc [2] (setD 2) t__law_rank_1 e__law_rank_1 (iSeq (getD 0)))))))
def e__law_class_1 : DL.Env → R D := (eCall m__law_rank (aCons (getD 2) (aCons (getD 6) aNil)))
def e__law_class_2 : DL.Env → R D := (eTup (aCons (eOp oIx (getB 4) (eC (.int 0))) (aCons (eUn oTuple (eFz (lLc [6] (setD 6) bYes e__law_class_1 (iSeq (eOp oIx (getB 4) (eC (.int 1))))))) aNil)))
def e__law_class_3 : DL.Env → R D := (eTup (aCons (eOp oIx (getB 5) (eC (.int 0))) (aCons (eCall m__law_rank (aCons (getD 2) (aCons (eOp oIx (getB 5) (eC (.int 1))) aNil))) aNil)))
def m__law_class : List D → R Ret := runD 7 2 ((sSeq (sSet 2 (eFz (lCall m__law_integers (aCons (getD 0) (aCons (getD 1) aNil))))) (sSeq (sSet 3 (eUn oTuple (eFz (lLc [4] (setD 4) bYes e__law_class_2 (iSeq (getD 0)))))) (sRet (eTup (aCons (getD 3) (aCons (eUn oTuple (eFz (lLc [5] (setD 5) bYes e__law_class_3 (iSeq (getD 1))))) aNil)))))))
def e__law_mapped_1 : DL.Env → R D := (eTup (aCons (eOp oIx (getB 7) (eC (.int 0))) (aCons (eOp oIx (getB 7) (eC (.int 1))) (aCons (eOp oIx (getB 1) (eOp oIx (getB 7) (eC (.int 2)))) aNil))))
def e__law_mapped_2 : DL.Env → R D := (eOp oIx (getB 1) (getB 8))
def b__law_mapped_1 : DL.Env → Option Out := (sSeq (sSet 6 (eUn oTuple (eFz (lLc [7] (setD 7) bYes e__law_mapped_1 (iSeq (eOp oIx (getB 5) (eC (.int 2)))))))) (sApp 4 (eTup (aCons (eOp oIx (getB 5) (eC (.int 0))) (aCons (eUn oTuple (eFz (lLc [8] (setD 8) bYes e__law_mapped_2 (iSeq (eOp oIx (getB 5) (eC (.int 1))))))) (aCons (getD 6) aNil))))))
def b__law_mapped_2 : DL.Env → Option Out := (sSeq (sSetF 4 (lLst aNil)) (sSeq (sFor (iSeq (getD 3)) (setD 5) b__law_mapped_1) (sApp 2 (eUn oTuple (getB 4)))))
def m__law_mapped : List D → R Ret := runD 9 2 ((sSeq (sSetF 2 (lLst aNil)) (sSeq (sFor (iSeq (getD 0)) (setD 3) b__law_mapped_2) (sRetOwn 2))))
noncomputable def e_Chain_1 : DL.Env → R D := (eIsO "Program" (getB 6))
noncomputable def b_Chain_1 : DL.Env → Option Out := (sIf (bCmp cNe (eCall m_signals_of (aCons (getD 3) (aCons (getD 4) aNil))) (eAttr "names" (getB 5))) (sRaise "InvalidChain" (eC (.str "a link is a channel whose signals are the names that the next program hears"))) sNx)
abbrev all_Chain : List Str := ["links", "programs"]
noncomputable def m_Chain : List D → R (List (Str × D)) := runI 7 2 "Chain" all_Chain ((sSeq (sIf (bNot (bVal (eCall m_is_row_of (aCons (getD 1) (aCons (eC (.int 1)) (aCons (eC (.int 3)) aNil)))))) (sRaise "InvalidChain" (eC (.str "a chain has 1 to 3 programs"))) sNx) (sSeq (sIf (bNot (bVal (eUn oAll (eFz (lLc [6] (setD 6) bYes e_Chain_1 (iSeq (getD 1))))))) (sRaise "InvalidChain" (eC (.str "a chain is made of programs"))) sNx) (sSeq (sIf (bNot (bVal (eCall m_is_row_of (aCons (getD 2) (aCons (eOp oSub (eUn oLen (getB 1)) (eC (.int 1))) (aCons (eOp oSub (eUn oLen (getB 1)) (eC (.int 1))) aNil)))))) (sRaise "InvalidChain" (eC (.str "there is a link for each program but the last one"))) sNx) (sSeq (sFor (iZip3 (getD 1) (getD 2) (eSlR (getB 1) (pSome (eC (.int 1))) pNone)) (gT 3 (gsCons (setD 3) (gsCons (setD 4) (gsCons (setD 5) gsNil)))) b_Chain_1) (sSeq (sFldM 0 "programs" (eUn oTuple (getB 1))) (sFldM 0 "links" (eUn oTuple (getB 2)))))))))
def m_output_from : List D → R Ret := runD 6 3 ((sSeq (sExpr (eCall m_demand (aCons (eCall m_is_row_of (aCons (getD 1) (aCons (eC (.int 3)) (aCons (eC (.int 3)) aNil)))) (aCons (eC (.str "an output is a triple")) aNil)))) (sSeq (sAsg (getD 1) (gT 3 (gsCons (setD 3) (gsCons (setD 4) (gsCons (setD 5) gsNil))))) (sSeq (sExpr (eCall m_demand (aCons (eCmp cInS (getB 4) (eCall m_signals_of (aCons (getD 0) (aCons (getD 3) aNil)))) (aCons (eC (.str "an output has a channel and a signal of this channel")) aNil)))) (sSeq (sExpr (eCall m_demand (aCons (eCall m_is_index (aCons (getD 5) (aCons (getD 2) aNil))) (aCons (eC (.str "an output has the index of a candidate")) aNil)))) (sRet (eTup (aCons (getD 3) (aCons (getD 4) (aCons (getD 5) aNil))))))))))
def e_outputs_from_1 : DL.Env → R D := (eCall m_output_from (aCons (getD 0) (aCons (getD 3) (aCons (getD 2) aNil))))
def m_outputs_from : List D → R Ret := runD 4 3 ((sSeq (sExpr (eCall m_demand (aCons (eCall m_is_row_of (aCons (getD 1) (aCons (eC (.int 0)) (aCons (eC (.int 3)) aNil)))) (aCons (eC (.str "a rule has at most 3 outputs")) aNil)))) (sRet (eUn oTuple (eFz (lLc [3] (setD 3) bYes e_outputs_from_1 (iSeq (getD 1))))))))
def m_rule_from : List D → R Ret := runD 10 2 ((sSeq (sExpr (eCall m_demand (aCons (eCall m_is_row_of (aCons (getD 1) (aCons (eC (.int 6)) (aCons (eC (.int 6)) aNil)))) (aCons (eC (.str "a rule has six parts")) aNil)))) (sSeq (sAsg (getD 1) (gT 6 (gsCons (setD 2) (gsCons (setD 3) (gsCons (setD 4) (gsCons (setD 5) (gsCons (setD 6) (gsCons (setD 7) gsNil)))))))) (sSeq (sExpr (eCall m_demand (aCons (eCall m_is_index (aCons (getD 2) (aCons (eUn oLen (eAttr "states" (getB 0))) aNil))) (aCons (eC (.str "a rule is for a state of the program")) aNil)))) (sSeq (sExpr (eCall m_demand (aCons (eCmp cInS (getB 3) (eAttr "names" (getB 0))) (aCons (eC (.str "a rule is for a name that the program hears")) aNil)))) (sSeq (sSet 8 (eOp oIx (eAttr "states" (getB 0)) (getB 2))) (sSeq (sExpr (eCall m_demand (aCons (eCall m_is_index (aCons (getD 4) (aCons (eCall m_positions_among (aCons (getD 8) aNil)) aNil))) (aCons (eC (.str "a rule is for a position among the kept integers")) aNil)))) (sSeq (sExpr (eCall m_demand (aCons (eCall m_is_index (aCons (getD 5) (aCons (eUn oLen (eAttr "states" (getB 0))) aNil))) (aCons (eC (.str "the target of a rule is a state of the program")) aNil)))) (sSeq (sSet 9 (eCall m_candidates_at (aCons (getD 8) (aCons (getD 4) aNil)))) (sSeq (sSet 6 (eCall m_sources_from (aCons (getD 6) (aCons (eOp oIx (eAttr "states" (getB 0)) (getB 5)) (aCons (getD 9) aNil))))) (sRet (eTup (aCons (getD 2) (aCons (getD 3) (aCons (getD 4) (aCons (getD 5) (aCons (getD 6) (aCons (eCall m_outputs_from (aCons (getD 0) (aCons (getD 7) (aCons (getD 9) aNil)))) aNil))))))))))))))))))
def b_table_from_1 : DL.Env → Option Out := (sSeq (sSet 4 (eCall m_rule_from (aCons (getD 0) (aCons (getD 3) aNil)))) (sSeq (sExpr (eCall m_demand (aCons (eNotInD (eSlT (getB 4) pNone (pSome (eC (.int 3)))) (getB 2)) (aCons (eC (.str "there is only one rule for a state, a name and a position")) aNil)))) (sPutD 2 (eSlT (getB 4) pNone (pSome (eC (.int 3)))) (getD 4))))
def m_table_from : List D → R Ret := runD 5 2 ((sSeq (sExpr (eCall m_demand (aCons (eCall m_is_row (aCons (getD 1) aNil)) (aCons (eC (.str "rules must be a tuple")) aNil)))) (sSeq (sSetM 2) (sSeq (sFor (iSeq (getD 1)) (setD 3) b_table_from_1) (sFrz 2 (sRet (getD 2)))))))
def m_situations_of : List D → R Ret := runD 5 1 ((sRetF (lLcN [1, 2, 3, 4] ([1, 2] ++ ([3] ++ ([4] ++ []))) (lcN (gT 2 (gsCons (setD 1) (gsCons (setD 2) gsNil))) bYes (cNext (iSeq (eAttr "names" (getB 0))) ([3] ++ ([4] ++ [])) (lcN (setD 3) bYes (cNext (iR1 (eCall m_positions_among (aCons (getD 2) aNil))) ([4] ++ []) (lcN (setD 4) bYes (cElt (eTup (aCons (getD 1) (aCons (getD 3) (aCons (getD 4) aNil)))))))))) (iEnm (eAttr "states" (getB 0))))))
noncomputable def e_Program_1 : DL.Env → R D := (eOp oGet (eAttr "table" (getB 0)) (getD 6))
abbrev all_Program : List Str := ["channels", "names", "rules", "states", "table"]
noncomputable def m_Program : List D → R (List (Str × D)) := runI 7 4 "Program" all_Program ((sSeq (sFldM 0 "names" (eCall m_words_from (aCons (getD 1) (aCons (eC (.int 4)) aNil)))) (sSeq (sFldM 0 "channels" (eCall m_channels_from (aCons (getD 2) aNil))) (sSeq (sFldM 0 "states" (eCall m_states_from (aCons (getD 3) aNil))) (sSeq (sFldM 0 "table" (eMelt 0 (eCall m_table_from (aCons (getD 0) (aCons (getD 4) aNil))))) (sSeq (sSetFz 5 (lMelt 0 (lCall m_situations_of (aCons (getD 0) aNil)))) (sSeq (sExpr (eCall m_demand (aCons (eCmp cEq (eUn oLenD (eAttr "table" (getB 0))) (eUn oLen (getB 5))) (aCons (eC (.str "there is a rule for each state, name and position")) aNil)))) (sFldM 0 "rules" (eUn oTuple (eFz (lLc [6] (setD 6) bYes e_Program_1 (iSeq (getD 5)))))))))))))
noncomputable def e__law_chain_1 : DL.Env → R D := (eMake "Program" m_Program (aCons (eFz (lUn oList (eOp oIx (getB 2) (eC (.int 0))))) (aCons (eFz (lUn oList (eOp oIx (getB 2) (eC (.int 1))))) (aCons (eFz (lUn oList (eOp oIx (getB 2) (eC (.int 2))))) (aCons (eFz (lUn oRev (eFz (lUn oList (eOp oIx (getB 2) (eC (.int 3))))))) aNil)))))
noncomputable def m__law_chain : List D → R Ret := runD 3 1 ((sSeq (sSetFz 1 (lLc [2] (setD 2) bYes e__law_chain_1 (iSeq (eOp oIx (getB 0) (eC (.int 0)))))) (sRet (eMake "Chain" m_Chain (aCons (getD 1) (aCons (eFz (lUn oList (eOp oIx (getB 0) (eC (.int 1))))) aNil))))))
noncomputable def e_law_1 : DL.Env → R D := (eFz (lUn oList (getB 15)))
noncomputable def e_law_2 : DL.Env → R D := (eFz (lLst (aCons (eOp oIx (getB 13) (eC (.int 0))) (aCons (eFz (lUn oList (eOp oIx (getB 13) (eC (.int 1))))) (aCons (eFz (lLc [15] (setD 15) bYes e_law_1 (iSeq (eOp oIx (getB 13) (eC (.int 2)))))) aNil)))))
noncomputable def e_law_3 : DL.Env → R D := (eFz (lLc [13] (setD 13) bYes e_law_2 (iSeq (getD 12))))
noncomputable def e_law_4 : DL.Env → R D := (eFz (lLst (aCons (eOp oIx (getB 14) (eC (.int 0))) (aCons (eFz (lUn oList (eOp oIx (getB 14) (eC (.int 1))))) aNil))))
noncomputable def e_law_5 : DL.Env → R D := (eFz (lUn oList (getB 13)))
noncomputable def b_law_1 : DL.Env → Option Out := (sSeq (sSet 4 (eCall m__law_beginning (aCons (getD 1) (aCons (getD 3) aNil)))) (sSeq (sSet 5 (eFz (lCall m__law_input (aCons (getD 1) (aCons (eOp oDiv (getB 3) (eC (.int 3))) (aCons (eOp oAdd (eC (.int 1)) (eOp oMod (eOp oDiv (getB 3) (eC (.int 9))) (eC (.int 40)))) aNil)))))) (sSeq (sSet 6 (eCall m_class_of (aCons (getD 2) (aCons (getD 4) (aCons (getD 5) aNil))))) (sSeq (sSet 7 (eFz (lCall m_deed_of (aCons (getD 2) (aCons (getD 6) aNil))))) (sSeq (sIf (bOr (bCmp cNe (getB 7) (eOp oIx (eFz (lCall m__law_deed (aCons (getD 1) (aCons (eOp oIx (getB 6) (eC (.int 0))) (aCons (eOp oIx (getB 6) (eC (.int 1))) aNil))))) (eC (.int 0)))) (bCmp cNotB (eCall m_is_deed (aCons (getD 2) (aCons (getD 6) (aCons (getD 7) aNil)))) (eC (.bl true)))) (sRet (eC (.bl false))) sNx) (sSeq (sAppNew (lCall m_deed_of (aCons (getD 2) (aCons (getD 6) aNil))) (eC (.str "spoilt"))) (sSeq (sIf (bCmp cNe (eFz (lCall m_deed_of (aCons (getD 2) (aCons (getD 6) aNil)))) (getB 7)) (sRet (eC (.bl false))) sNx) (sSeq (sSetFz 8 (lLc [12] (setD 12) bYes e_law_3 (iSeq (getD 7)))) (sSeq (sIf (bOr (bCmp cNe (eFz (lCall m_served (aCons (getD 2) (aCons (getD 4) (aCons (getD 5) (aCons (getD 8) aNil)))))) (eOp oIx (eFz (lCall m__law_deed (aCons (getD 1) (aCons (getD 4) (aCons (getD 5) aNil))))) (eC (.int 0)))) (bCmp cNotB (eCall m_is_deed (aCons (getD 2) (aCons (getD 6) (aCons (getD 8) aNil)))) (eC (.bl true)))) (sRet (eC (.bl false))) sNx) (sSeq (sSet 9 (eFz (lUn oList (getB 7)))) (sSeq (sSet 10 (eFz (lCall m_served (aCons (getD 2) (aCons (getD 4) (aCons (getD 5) (aCons (getD 9) aNil))))))) (sSeq (sIf (bOr (bNot (bVal (eIsi "list" (getB 10)))) (bOr (bCmp cNe (getB 10) (eFz (lCall m_deed_from (aCons (getD 2) (aCons (getD 4) (aCons (getD 5) aNil)))))) (bCmp cNe (getB 9) (getB 7)))) (sRet (eC (.bl false))) sNx) (sSeq (sIf (bCmp cNe (getB 10) (eOp oIx (eFz (lCall m__law_deed (aCons (getD 1) (aCons (getD 4) (aCons (getD 5) aNil))))) (eC (.int 0)))) (sRet (eC (.bl false))) sNx) (sSeq (sSet 11 (eFz (lLst (aCons (eFz (lLc [14] (setD 14) bYes e_law_4 (iSeq (getD 4)))) (aCons (eFz (lLc [13] (setD 13) bYes e_law_5 (iSeq (getD 5)))) aNil))))) (sIf (bOr (bCmp cNe (eFz (lCall m_served (aCons (getD 2) (aCons (eOp oIx (getB 11) (eC (.int 0))) (aCons (eOp oIx (getB 11) (eC (.int 1))) (aCons (eUn oTuple (getB 7)) aNil)))))) (getB 10)) (bCmp cNe (eFz (lCall m_deed_of (aCons (getD 2) (aCons (eFz (lLst (aCons (eFz (lUn oList (eOp oIx (getB 6) (eC (.int 0))))) (aCons (eFz (lUn oList (eOp oIx (getB 6) (eC (.int 1))))) aNil)))) aNil)))) (getB 7))) (sRet (eC (.bl false))) sNx)))))))))))))))
noncomputable def m_law : List D → R Ret := runD 16 1 ((sSeq (sSet 1 (eFz (lCall m__law_chain_plan (aCons (getD 0) aNil)))) (sSeq (sSet 2 (eCall m__law_chain (aCons (getD 1) aNil))) (sSeq (sFor (iSeq (eFz (lOp oCat (eFz (lLst (aCons (eCall m__law_cell (aCons (getD 0) (aCons (eC (.int 3)) aNil))) (aCons (eCall m__law_cell (aCons (getD 0) (aCons (eC (.int 4)) aNil))) aNil)))) (eSlR (getB 0) (pSome (eC (.int 5))) (pSome (eC (.int 11))))))) (setD 3) b_law_1) (sRet (eC (.bl true)))))))
end K09
namespace K09
open PySem PySem.Spec PyProof.Rows L2 DL
def top (i : Nat) : Stmt := PySem.Challenge.pw_piecetold_k09_whole_one_deed_for_all.main.body.getD i (.Pass ⟨0, 0, 0, 0⟩)
structure Bt (K : KF) (mg : Str → Option Value) : Prop where
  len : mg "len" = none
  int : mg "int" = none
  range : mg "range" = none
  tuple : mg "tuple" = none
  list : mg "list" = none
  sorted : mg "sorted" = none
  all : mg "all" = none
  isinstance : mg "isinstance" = none
  zip : mg "zip" = none
  enumerate : mg "enumerate" = none
  set : mg "set" = none
  bool : mg "bool" = none
  str : mg "str" = none
  LETTERS : ∃ t, mg "LETTERS" = some (.str "abcdefghijklmnopqrstuvwxyz" t)
  MOST_LETTERS : ∃ t, mg "MOST_LETTERS" = some (.int 8 t)
  MOST_NAMES : ∃ t, mg "MOST_NAMES" = some (.int 4 t)
  MOST_CHANNELS : ∃ t, mg "MOST_CHANNELS" = some (.int 2 t)
  MOST_SIGNALS : ∃ t, mg "MOST_SIGNALS" = some (.int 4 t)
  MOST_STATES : ∃ t, mg "MOST_STATES" = some (.int 10 t)
  MOST_KEPT : ∃ t, mg "MOST_KEPT" = some (.int 4 t)
  MOST_OUTPUTS : ∃ t, mg "MOST_OUTPUTS" = some (.int 3 t)
  MOST_PROGRAMS : ∃ t, mg "MOST_PROGRAMS" = some (.int 3 t)
  MOST_MESSAGES : ∃ t, mg "MOST_MESSAGES" = some (.int 40 t)
  R_InvalidBeginning : RaiseOk K mg "InvalidBeginning"
  R_InvalidChain : RaiseOk K mg "InvalidChain"
  R_InvalidClass : RaiseOk K mg "InvalidClass"
  R_InvalidDeed : RaiseOk K mg "InvalidDeed"
  R_InvalidInput : RaiseOk K mg "InvalidInput"
  R_InvalidProgram : RaiseOk K mg "InvalidProgram"
  I_Program : IsOwn K mg "Program"
abbrev s_is_row : Stmt := top 17
abbrev p_is_row : List Str := ["value"]
abbrev N_is_row : List Str := ["value"]
theorem sc_is_row : FnScope N_is_row p_is_row (defScope s_is_row) := ⟨rfl, rfl, rfl, by decide +kernel, rfl, by decide +kernel, by decide +kernel⟩
theorem ok_is_row {P : Program} {w : World} {K : KF} {mg : Str → Option Value} {base : Heap} (B : Bt K mg) (h : Has K mg "is_row" s_is_row p_is_row) : Keeps P w K mg base "is_row" 1 p_is_row 1 m_is_row :=
  keeps_of h sc_is_row rfl fun f cdv A outer s H E hr =>
    (dss_one (ds_ret (dv_isi2 rfl B.isinstance (db_name 0 (pv 0)) (pe_bltn rfl B.list (by decide +kernel) rfl) (pe_bltn rfl B.tuple (by decide +kernel) rfl))))
abbrev s_is_row_of : Stmt := top 18
abbrev p_is_row_of : List Str := ["value", "least", "most"]
abbrev N_is_row_of : List Str := ["value", "least", "most"]
theorem sc_is_row_of : FnScope N_is_row_of p_is_row_of (defScope s_is_row_of) := ⟨rfl, rfl, rfl, by decide +kernel, rfl, by decide +kernel, by decide +kernel⟩
theorem ok_is_row_of {P : Program} {w : World} {K : KF} {mg : Str → Option Value} {base : Heap} (B : Bt K mg) (G_is_row : Keeps P w K mg base "is_row" 1 p_is_row 1 m_is_row) (h : Has K mg "is_row_of" s_is_row_of p_is_row_of) : Keeps P w K mg base "is_row_of" 2 p_is_row_of 3 m_is_row_of :=
  keeps_of h sc_is_row_of rfl fun f cdv A outer s H E hr =>
    (dss_one (ds_ret (dv_and (dv_b (dv_callK G_is_row (hr.mono (by decide)) (takes_of rfl rfl rfl rfl) rfl (da_cons (dv_name 0 (pv 0)) da_nil) (al_cons al_nil))) (dv_one (dv_chain op_le op_le cd_int cd_int (db_name 1 (pv 1)) (dv_b (dv_len rfl B.len (db_name 0 (pv 0)))) (db_name 2 (pv 2)))))))
abbrev s_is_integer : Stmt := top 19
abbrev p_is_integer : List Str := ["value"]
abbrev N_is_integer : List Str := ["value"]
theorem sc_is_integer : FnScope N_is_integer p_is_integer (defScope s_is_integer) := ⟨rfl, rfl, rfl, by decide +kernel, rfl, by decide +kernel, by decide +kernel⟩
theorem ok_is_integer {P : Program} {w : World} {K : KF} {mg : Str → Option Value} {base : Heap} (B : Bt K mg) (h : Has K mg "is_integer" s_is_integer p_is_integer) : Keeps P w K mg base "is_integer" 1 p_is_integer 1 m_is_integer :=
  keeps_of h sc_is_integer rfl fun f cdv A outer s H E hr =>
    (dss_one (ds_ret (dv_and (dv_b (dv_isi rfl B.isinstance (db_name 0 (pv 0)) (pe_bltn rfl B.int (by decide +kernel) rfl))) (dv_one (dv_not (dv_b (dv_isi rfl B.isinstance (db_name 0 (pv 0)) (pe_bltn rfl B.bool (by decide +kernel) rfl))))))))
abbrev s_is_index : Stmt := top 20
abbrev p_is_index : List Str := ["value", "many"]
abbrev N_is_index : List Str := ["value", "many"]
theorem sc_is_index : FnScope N_is_index p_is_index (defScope s_is_index) := ⟨rfl, rfl, rfl, by decide +kernel, rfl, by decide +kernel, by decide +kernel⟩
theorem ok_is_index {P : Program} {w : World} {K : KF} {mg : Str → Option Value} {base : Heap} (B : Bt K mg) (G_is_integer : Keeps P w K mg base "is_integer" 1 p_is_integer 1 m_is_integer) (h : Has K mg "is_index" s_is_index p_is_index) : Keeps P w K mg base "is_index" 2 p_is_index 2 m_is_index :=
  keeps_of h sc_is_index rfl fun f cdv A outer s H E hr =>
    (dss_one (ds_ret (dv_and (dv_b (dv_callK G_is_integer (hr.mono (by decide)) (takes_of rfl rfl rfl rfl) rfl (da_cons (dv_name 0 (pv 0)) da_nil) (al_cons al_nil))) (dv_one (dv_chain op_le op_lt cd_int cd_int (dv_b dv_int) (db_name 0 (pv 0)) (db_name 1 (pv 1)))))))
abbrev s_is_word : Stmt := top 21
abbrev p_is_word : List Str := ["value"]
abbrev N_is_word : List Str := ["value", "letter"]
theorem sc_is_word : FnScope N_is_word p_is_word (defScope s_is_word) := ⟨rfl, rfl, rfl, by decide +kernel, rfl, by decide +kernel, by decide +kernel⟩
theorem ok_is_word {P : Program} {w : World} {K : KF} {mg : Str → Option Value} {base : Heap} (B : Bt K mg) (h : Has K mg "is_word" s_is_word p_is_word) : Keeps P w K mg base "is_word" 1 p_is_word 1 m_is_word :=
  keeps_of h sc_is_word rfl fun f cdv A outer s H E hr =>
    (dss_cons (ds_if (PW.pt (dw_or (dt_not (dt_val (dv_b (dv_isi rfl B.isinstance (db_name 0 (pv 0)) (pe_bltn rfl B.str (by decide +kernel) rfl))))) (dw_or1 (dt_not (dt_chain op_le op_le cd_int cd_int (dv_b dv_int) (dv_b (dv_len rfl B.len (db_name 0 (pv 0)))) (dv_b (dv_globI B.MOST_LETTERS rfl)))))))
    (dss_one (ds_ret dv_bl))
    dss_nil)
    (dss_one (ds_ret (dv_all rfl rfl B.all (df_b (df_lc (W1 := wish mg fun _ _ _ _ => False) (W2 := wish mg fun _ _ _ _ => False) (own := [("letter", 1)]) rfl sc_is_word.nd (di_seq (dv_name 0 (pv 0))) (blkOk_by (own := [("letter", 1)]) (N := N_is_word) (sc := defScope s_is_word) (by decide +kernel)) (fun _ _ _ _ _ => (dg_name (pg_name (i := 1) sc_is_word.nd rfl (Or.inl rfl)))) (fun _ _ _ _ _ => dts_nil) (fun _ _ _ _ _ => (dv_cmp op_in_sign cd_inC (db_name 1 (pv 1)) (dv_b (dv_globS B.LETTERS rfl)) rfl)) (by decide)))))))
abbrev s_is_ascending : Stmt := top 22
abbrev p_is_ascending : List Str := ["integers"]
abbrev N_is_ascending : List Str := ["integers", "low", "high"]
theorem sc_is_ascending : FnScope N_is_ascending p_is_ascending (defScope s_is_ascending) := ⟨rfl, rfl, rfl, by decide +kernel, rfl, by decide +kernel, by decide +kernel⟩
theorem ok_is_ascending {P : Program} {w : World} {K : KF} {mg : Str → Option Value} {base : Heap} (B : Bt K mg) (h : Has K mg "is_ascending" s_is_ascending p_is_ascending) : Keeps P w K mg base "is_ascending" 1 p_is_ascending 1 m_is_ascending :=
  keeps_of h sc_is_ascending rfl fun f cdv A outer s H E hr =>
    (dss_one (ds_ret (dv_all rfl rfl B.all (df_b (df_lc (W1 := wish mg fun _ _ _ _ => False) (W2 := wish mg fun _ _ _ _ => False) (own := [("low", 1), ("high", 2)]) rfl sc_is_ascending.nd (di_zip2 rfl B.zip (dv_name 0 (pv 0)) (dv_sliceR (db_name 0 (pv 0)) (dp_some (dv_b dv_int)) dp_none)) (blkOk_by (own := [("low", 1), ("high", 2)]) (N := N_is_ascending) (sc := defScope s_is_ascending) (by decide +kernel)) (fun _ _ _ _ _ => (dg_tup rfl (dgs_cons (dg_name (pg_name (i := 1) sc_is_ascending.nd rfl (Or.inl rfl))) (dgs_cons (dg_name (pg_name (i := 2) sc_is_ascending.nd rfl (Or.inl rfl))) dgs_nil)))) (fun _ _ _ _ _ => dts_nil) (fun _ _ _ _ _ => (dv_cmp op_lt cd_int (db_name 1 (pv 1)) (db_name 2 (pv 2)) (nomark _))) (by decide))))))
abbrev s_demand : Stmt := top 23
abbrev p_demand : List Str := ["holds", "why"]
abbrev N_demand : List Str := ["holds", "why"]
theorem sc_demand : FnScope N_demand p_demand (defScope s_demand) := ⟨rfl, rfl, rfl, by decide +kernel, rfl, by decide +kernel, by decide +kernel⟩
theorem ok_demand {P : Program} {w : World} {K : KF} {mg : Str → Option Value} {base : Heap} (B : Bt K mg) (h : Has K mg "demand" s_demand p_demand) : Keeps P w K mg base "demand" 1 p_demand 2 m_demand :=
  keeps_of h sc_demand rfl fun f cdv A outer s H E hr =>
    (dss_one (ds_if (dt_not (dt_val (db_name 0 (pv 0))))
    (dss_one (ds_raise rfl (takes_of rfl rfl rfl rfl) B.R_InvalidProgram rfl (dv_name 1 (pv 1))))
    dss_nil))
abbrev s_words_from : Stmt := top 24
abbrev p_words_from : List Str := ["values", "most"]
abbrev N_words_from : List Str := ["values", "most", "value"]
theorem sc_words_from : FnScope N_words_from p_words_from (defScope s_words_from) := ⟨rfl, rfl, rfl, by decide +kernel, rfl, by decide +kernel, by decide +kernel⟩
theorem ok_words_from {P : Program} {w : World} {K : KF} {mg : Str → Option Value} {base : Heap} (B : Bt K mg) (G_demand : Keeps P w K mg base "demand" 1 p_demand 2 m_demand) (G_is_row_of : Keeps P w K mg base "is_row_of" 2 p_is_row_of 3 m_is_row_of) (G_is_word : Keeps P w K mg base "is_word" 1 p_is_word 1 m_is_word) (h : Has K mg "words_from" s_words_from p_words_from) : Keeps P w K mg base "words_from" 3 p_words_from 2 m_words_from :=
  keeps_of h sc_words_from rfl fun f cdv A outer s H E hr =>
    (dss_cons (ds_expr (ps_expr (dv_callK G_demand (hr.mono (by decide)) (takes_of rfl rfl rfl rfl) rfl (da_cons (dv_callK G_is_row_of (hr.mono (by decide)) (takes_of rfl rfl rfl rfl) rfl (da_cons (dv_name 0 (pv 0)) (da_cons dv_int (da_cons (dv_name 1 (pv 1)) da_nil))) (al_cons (al_cons (al_cons al_nil)))) (da_cons dv_str da_nil)) (al_cons (al_cons al_nil)))))
    (dss_cons (ds_expr (ps_expr (dv_callK G_demand (hr.mono (by decide)) (takes_of rfl rfl rfl rfl) rfl (da_cons (dv_all rfl rfl B.all (df_b (df_lc (W1 := wish mg fun _ _ _ _ => False) (W2 := wish mg fun _ _ _ _ => False) (own := [("value", 2)]) rfl sc_words_from.nd (di_seq (dv_name 0 (pv 0))) (blkOk_by (own := [("value", 2)]) (N := N_words_from) (sc := defScope s_words_from) (by decide +kernel)) (fun _ _ _ _ _ => (dg_name (pg_name (i := 2) sc_words_from.nd rfl (Or.inl rfl)))) (fun _ _ _ _ _ => dts_nil) (fun _ _ _ _ _ => (dv_callK G_is_word (hr.mono (by decide)) takes0 rfl (da_cons (dv_name 2 (pv 2)) da_nil) (al_cons al_nil))) (by decide)))) (da_cons dv_str da_nil)) (al_cons (al_cons al_nil)))))
    (dss_cons (ds_expr (ps_expr (dv_callK G_demand (hr.mono (by decide)) (takes_of rfl rfl rfl rfl) rfl (da_cons (dv_cmp (op_eqD hr.units) cd_eq (dv_b (dv_lenSet rfl rfl rfl B.len B.set (db_name 0 (pv 0)))) (dv_b (dv_len rfl B.len (db_name 0 (pv 0)))) (nomark _)) (da_cons dv_str da_nil)) (al_cons (al_cons al_nil)))))
    (dss_one (ds_ret (dv_tuple rfl B.tuple (db_name 0 (pv 0))))))))
abbrev s_channels_from : Stmt := top 25
abbrev p_channels_from : List Str := ["values"]
abbrev N_channels_from : List Str := ["values", "names", "value", "name"]
theorem sc_channels_from : FnScope N_channels_from p_channels_from (defScope s_channels_from) := ⟨rfl, rfl, rfl, by decide +kernel, rfl, by decide +kernel, by decide +kernel⟩
theorem ok_channels_from {P : Program} {w : World} {K : KF} {mg : Str → Option Value} {base : Heap} (B : Bt K mg) (G_demand : Keeps P w K mg base "demand" 1 p_demand 2 m_demand) (G_is_row_of : Keeps P w K mg base "is_row_of" 2 p_is_row_of 3 m_is_row_of) (G_words_from : Keeps P w K mg base "words_from" 3 p_words_from 2 m_words_from) (h : Has K mg "channels_from" s_channels_from p_channels_from) : Keeps P w K mg base "channels_from" 4 p_channels_from 1 m_channels_from :=
  keeps_of h sc_channels_from rfl fun f cdv A outer s H E hr =>
    (dss_cons (ds_expr (ps_expr (dv_callK G_demand (hr.mono (by decide)) (takes_of rfl rfl rfl rfl) rfl (da_cons (dv_callK G_is_row_of (hr.mono (by decide)) (takes_of rfl rfl rfl rfl) rfl (da_cons (dv_name 0 (pv 0)) (da_cons dv_int (da_cons (dv_globI B.MOST_CHANNELS rfl) da_nil))) (al_cons (al_cons (al_cons al_nil)))) (da_cons dv_str da_nil)) (al_cons (al_cons al_nil)))))
    (dss_cons (ds_expr (ps_expr (dv_callK G_demand (hr.mono (by decide)) (takes_of rfl rfl rfl rfl) rfl (da_cons (dv_all rfl rfl B.all (df_b (df_lc (W1 := wish mg fun _ _ _ _ => False) (W2 := wish mg fun _ _ _ _ => False) (own := [("value", 2)]) rfl sc_channels_from.nd (di_seq (dv_name 0 (pv 0))) (blkOk_by (own := [("value", 2)]) (N := N_channels_from) (sc := defScope s_channels_from) (by decide +kernel)) (fun _ _ _ _ _ => (dg_name (pg_name (i := 2) sc_channels_from.nd rfl (Or.inl rfl)))) (fun _ _ _ _ _ => dts_nil) (fun _ _ _ _ _ => (dv_callK G_is_row_of (hr.mono (by decide)) takes0 rfl (da_cons (dv_name 2 (pv 2)) (da_cons dv_int (da_cons dv_int da_nil))) (al_cons (al_cons (al_cons al_nil))))) (by decide)))) (da_cons dv_str da_nil)) (al_cons (al_cons al_nil)))))
    (dss_cons (ds_set (ps_set (i := 1) sc_channels_from.nd rfl (Or.inl rfl) (dv_callK G_words_from (hr.mono (by decide)) (takes_of rfl rfl rfl rfl) rfl (da_cons (df_v (df_lc (W1 := wish mg fun _ _ _ _ => False) (W2 := wish mg fun _ _ _ _ => False) (own := [("value", 2)]) rfl sc_channels_from.nd (di_seq (dv_name 0 (pv 0))) (blkOk_by (own := [("value", 2)]) (N := N_channels_from) (sc := defScope s_channels_from) (by decide +kernel)) (fun _ _ _ _ _ => (dg_name (pg_name (i := 2) sc_channels_from.nd rfl (Or.inl rfl)))) (fun _ _ _ _ _ => dts_nil) (fun _ _ _ _ _ => (dv_ix (db_name 2 (pv 2)) (dv_b dv_int))) (by decide))) (da_cons (dv_globI B.MOST_CHANNELS rfl) da_nil)) (al_cons (al_cons al_nil)))))
    (dss_one (ds_ret (dv_tuple rfl B.tuple (df_b (df_lc (W1 := wish mg fun _ _ _ _ => False) (W2 := wish mg fun _ _ _ _ => False) (own := [("name", 3), ("value", 2)]) rfl sc_channels_from.nd (di_zip2 rfl B.zip (dv_name 1 (pv 1)) (dv_name 0 (pv 0))) (blkOk_by (own := [("name", 3), ("value", 2)]) (N := N_channels_from) (sc := defScope s_channels_from) (by decide +kernel)) (fun _ _ _ _ _ => (dg_tup rfl (dgs_cons (dg_name (pg_name (i := 3) sc_channels_from.nd rfl (Or.inl rfl))) (dgs_cons (dg_name (pg_name (i := 2) sc_channels_from.nd rfl (Or.inl rfl))) dgs_nil)))) (fun _ _ _ _ _ => dts_nil) (fun _ _ _ _ _ => (dv_tup (da_cons (dv_name 3 (pv 3)) (da_cons (dv_callK G_words_from (hr.mono (by decide)) takes0 rfl (da_cons (dv_ix (db_name 2 (pv 2)) (dv_b dv_int)) (da_cons (dv_globI B.MOST_SIGNALS rfl) da_nil)) (al_cons (al_cons al_nil))) da_nil)))) (by decide)))))))))
abbrev s_states_from : Stmt := top 26
abbrev p_states_from : List Str := ["values"]
abbrev N_states_from : List Str := ["values", "value"]
theorem sc_states_from : FnScope N_states_from p_states_from (defScope s_states_from) := ⟨rfl, rfl, rfl, by decide +kernel, rfl, by decide +kernel, by decide +kernel⟩
theorem ok_states_from {P : Program} {w : World} {K : KF} {mg : Str → Option Value} {base : Heap} (B : Bt K mg) (G_demand : Keeps P w K mg base "demand" 1 p_demand 2 m_demand) (G_is_row_of : Keeps P w K mg base "is_row_of" 2 p_is_row_of 3 m_is_row_of) (G_is_index : Keeps P w K mg base "is_index" 2 p_is_index 2 m_is_index) (h : Has K mg "states_from" s_states_from p_states_from) : Keeps P w K mg base "states_from" 3 p_states_from 1 m_states_from :=
  keeps_of h sc_states_from rfl fun f cdv A outer s H E hr =>
    (dss_cons (ds_expr (ps_expr (dv_callK G_demand (hr.mono (by decide)) (takes_of rfl rfl rfl rfl) rfl (da_cons (dv_callK G_is_row_of (hr.mono (by decide)) (takes_of rfl rfl rfl rfl) rfl (da_cons (dv_name 0 (pv 0)) (da_cons dv_int (da_cons (dv_globI B.MOST_STATES rfl) da_nil))) (al_cons (al_cons (al_cons al_nil)))) (da_cons dv_str da_nil)) (al_cons (al_cons al_nil)))))
    (dss_cons (ds_expr (ps_expr (dv_callK G_demand (hr.mono (by decide)) (takes_of rfl rfl rfl rfl) rfl (da_cons (dv_all rfl rfl B.all (df_b (df_lc (W1 := wish mg fun _ _ _ _ => False) (W2 := wish mg fun _ _ _ _ => False) (own := [("value", 1)]) rfl sc_states_from.nd (di_seq (dv_name 0 (pv 0))) (blkOk_by (own := [("value", 1)]) (N := N_states_from) (sc := defScope s_states_from) (by decide +kernel)) (fun _ _ _ _ _ => (dg_name (pg_name (i := 1) sc_states_from.nd rfl (Or.inl rfl)))) (fun _ _ _ _ _ => dts_nil) (fun _ _ _ _ _ => (dv_callK G_is_index (hr.mono (by decide)) takes0 rfl (da_cons (dv_name 1 (pv 1)) (da_cons (dv_add (dv_b (dv_globI B.MOST_KEPT rfl)) (dv_b dv_int)) da_nil)) (al_cons (al_cons al_nil)))) (by decide)))) (da_cons dv_str da_nil)) (al_cons (al_cons al_nil)))))
    (dss_cons (ds_expr (ps_expr (dv_callK G_demand (hr.mono (by decide)) (takes_of rfl rfl rfl rfl) rfl (da_cons (dv_cmp (op_eqD hr.units) cd_eq (dv_b (dv_ix (db_name 0 (pv 0)) (dv_b dv_int))) (dv_b dv_int) (nomark _)) (da_cons dv_str da_nil)) (al_cons (al_cons al_nil)))))
    (dss_one (ds_ret (dv_tuple rfl B.tuple (db_name 0 (pv 0))))))))
abbrev s_sources_from : Stmt := top 27
abbrev p_sources_from : List Str := ["values", "many", "candidates"]
abbrev N_sources_from : List Str := ["values", "many", "candidates", "value"]
theorem sc_sources_from : FnScope N_sources_from p_sources_from (defScope s_sources_from) := ⟨rfl, rfl, rfl, by decide +kernel, rfl, by decide +kernel, by decide +kernel⟩
theorem ok_sources_from {P : Program} {w : World} {K : KF} {mg : Str → Option Value} {base : Heap} (B : Bt K mg) (G_demand : Keeps P w K mg base "demand" 1 p_demand 2 m_demand) (G_is_row_of : Keeps P w K mg base "is_row_of" 2 p_is_row_of 3 m_is_row_of) (G_is_index : Keeps P w K mg base "is_index" 2 p_is_index 2 m_is_index) (G_is_ascending : Keeps P w K mg base "is_ascending" 1 p_is_ascending 1 m_is_ascending) (h : Has K mg "sources_from" s_sources_from p_sources_from) : Keeps P w K mg base "sources_from" 3 p_sources_from 3 m_sources_from :=
  keeps_of h sc_sources_from rfl fun f cdv A outer s H E hr =>
    (dss_cons (ds_expr (ps_expr (dv_callK G_demand (hr.mono (by decide)) (takes_of rfl rfl rfl rfl) rfl (da_cons (dv_callK G_is_row_of (hr.mono (by decide)) (takes_of rfl rfl rfl rfl) rfl (da_cons (dv_name 0 (pv 0)) (da_cons (dv_name 1 (pv 1)) (da_cons (dv_name 1 (pv 1)) da_nil))) (al_cons (al_cons (al_cons al_nil)))) (da_cons dv_str da_nil)) (al_cons (al_cons al_nil)))))
    (dss_cons (ds_expr (ps_expr (dv_callK G_demand (hr.mono (by decide)) (takes_of rfl rfl rfl rfl) rfl (da_cons (dv_all rfl rfl B.all (df_b (df_lc (W1 := wish mg fun _ _ _ _ => False) (W2 := wish mg fun _ _ _ _ => False) (own := [("value", 3)]) rfl sc_sources_from.nd (di_seq (dv_name 0 (pv 0))) (blkOk_by (own := [("value", 3)]) (N := N_sources_from) (sc := defScope s_sources_from) (by decide +kernel)) (fun _ _ _ _ _ => (dg_name (pg_name (i := 3) sc_sources_from.nd rfl (Or.inl rfl)))) (fun _ _ _ _ _ => dts_nil) (fun _ _ _ _ _ => (dv_callK G_is_index (hr.mono (by decide)) takes0 rfl (da_cons (dv_name 3 (pv 3)) (da_cons (dv_name 2 (pv 2)) da_nil)) (al_cons (al_cons al_nil)))) (by decide)))) (da_cons dv_str da_nil)) (al_cons (al_cons al_nil)))))
    (dss_cons (ds_expr (ps_expr (dv_callK G_demand (hr.mono (by decide)) (takes_of rfl rfl rfl rfl) rfl (da_cons (dv_callK G_is_ascending (hr.mono (by decide)) (takes_of rfl rfl rfl rfl) rfl (da_cons (dv_name 0 (pv 0)) da_nil) (al_cons al_nil)) (da_cons dv_str da_nil)) (al_cons (al_cons al_nil)))))
    (dss_one (ds_ret (dv_tuple rfl B.tuple (db_name 0 (pv 0))))))))
abbrev s_positions_among : Stmt := top 33
abbrev p_positions_among : List Str := ["kept"]
abbrev N_positions_among : List Str := ["kept"]
theorem sc_positions_among : FnScope N_positions_among p_positions_among (defScope s_positions_among) := ⟨rfl, rfl, rfl, by decide +kernel, rfl, by decide +kernel, by decide +kernel⟩
theorem ok_positions_among {P : Program} {w : World} {K : KF} {mg : Str → Option Value} {base : Heap} (B : Bt K mg) (h : Has K mg "positions_among" s_positions_among p_positions_among) : Keeps P w K mg base "positions_among" 1 p_positions_among 1 m_positions_among :=
  keeps_of h sc_positions_among rfl fun f cdv A outer s H E hr =>
    (dss_one (ds_ret (dv_add (dv_b (dv_mul (dv_b dv_int) (db_name 0 (pv 0)))) (dv_b dv_int))))
abbrev s_candidates_at : Stmt := top 34
abbrev p_candidates_at : List Str := ["kept", "position"]
abbrev N_candidates_at : List Str := ["kept", "position"]
theorem sc_candidates_at : FnScope N_candidates_at p_candidates_at (defScope s_candidates_at) := ⟨rfl, rfl, rfl, by decide +kernel, rfl, by decide +kernel, by decide +kernel⟩
theorem ok_candidates_at {P : Program} {w : World} {K : KF} {mg : Str → Option Value} {base : Heap} (B : Bt K mg) (h : Has K mg "candidates_at" s_candidates_at p_candidates_at) : Keeps P w K mg base "candidates_at" 1 p_candidates_at 2 m_candidates_at :=
  keeps_of h sc_candidates_at rfl fun f cdv A outer s H E hr =>
    (dss_one (ds_ret (dv_if (dt_cmp (op_eqD hr.units) cd_eq (dv_b (dv_mod (db_name 1 (pv 1)) (dv_b dv_int))) (dv_b dv_int) (nomark _)) (dv_name 0 (pv 0)) (dv_add (db_name 0 (pv 0)) (dv_b dv_int)))))
abbrev s_signals_of : Stmt := top 35
abbrev p_signals_of : List Str := ["program", "channel"]
abbrev N_signals_of : List Str := ["program", "channel", "name", "signals"]
theorem sc_signals_of : FnScope N_signals_of p_signals_of (defScope s_signals_of) := ⟨rfl, rfl, rfl, by decide +kernel, rfl, by decide +kernel, by decide +kernel⟩
theorem ok_signals_of {P : Program} {w : World} {K : KF} {mg : Str → Option Value} {base : Heap} (B : Bt K mg) (h : Has K mg "signals_of" s_signals_of p_signals_of) : Keeps P w K mg base "signals_of" 1 p_signals_of 2 m_signals_of :=
  keeps_of h sc_signals_of rfl fun f cdv A outer s H E hr =>
    (dss_cons (ds_for (passes_of rfl) rfl (di_seq (dv_attr (db_name 0 (pv 0)))) (dg_tup rfl (dgs_cons (dg_name (pg_name (i := 2) sc_signals_of.nd rfl (Or.inl rfl))) (dgs_cons (dg_name (pg_name (i := 3) sc_signals_of.nd rfl (Or.inl rfl))) dgs_nil)))
    (dss_one (ds_if (dt_cmp (op_eqD hr.units) cd_eq (db_name 2 (pv 2)) (db_name 1 (pv 1)) (nomark _))
    (dss_one (ds_ret (dv_name 3 (pv 3))))
    dss_nil)))
    (dss_one (ds_ret (dv_tup da_nil))))
abbrev s_position_of : Stmt := top 37
abbrev p_position_of : List Str := ["integer", "kept"]
abbrev N_position_of : List Str := ["integer", "kept", "position", "value"]
theorem sc_position_of : FnScope N_position_of p_position_of (defScope s_position_of) := ⟨rfl, rfl, rfl, by decide +kernel, rfl, by decide +kernel, by decide +kernel⟩
theorem ok_position_of {P : Program} {w : World} {K : KF} {mg : Str → Option Value} {base : Heap} (B : Bt K mg) (h : Has K mg "position_of" s_position_of p_position_of) : Keeps P w K mg base "position_of" 1 p_position_of 2 m_position_of :=
  keeps_of h sc_position_of rfl fun f cdv A outer s H E hr =>
    (dss_cons (ds_set (ps_set (i := 2) sc_position_of.nd rfl (Or.inl rfl) dv_int))
    (dss_cons (ds_for (passes_of rfl) rfl (di_seq (dv_name 1 (pv 1))) (dg_name (pg_name (i := 3) sc_position_of.nd rfl (Or.inl rfl)))
    (dss_one (ds_if (dt_cmp op_gt cd_int (db_name 0 (pv 0)) (db_name 3 (pv 3)) (nomark _))
    (dss_one (ds_aug aug_add (ps_aug (i := 2) sc_position_of.nd rfl (Or.inl rfl) dv_int (iop_add.or iop_add_str))))
    (dss_one (ds_if (dt_cmp (op_eqD hr.units) cd_eq (db_name 0 (pv 0)) (db_name 3 (pv 3)) (nomark _))
    (dss_one (ds_aug aug_add (ps_aug (i := 2) sc_position_of.nd rfl (Or.inl rfl) dv_int (iop_add.or iop_add_str))))
    dss_nil)))))
    (dss_one (ds_ret (dv_name 2 (pv 2))))))
abbrev s_candidates_of : Stmt := top 38
abbrev p_candidates_of : List Str := ["integer", "kept", "position"]
abbrev N_candidates_of : List Str := ["integer", "kept", "position", "candidates"]
theorem sc_candidates_of : FnScope N_candidates_of p_candidates_of (defScope s_candidates_of) := ⟨rfl, rfl, rfl, by decide +kernel, rfl, by decide +kernel, by decide +kernel⟩
theorem ok_candidates_of {P : Program} {w : World} {K : KF} {mg : Str → Option Value} {base : Heap} (B : Bt K mg) (h : Has K mg "candidates_of" s_candidates_of p_candidates_of) : Keeps P w K mg base "candidates_of" 1 p_candidates_of 3 m_candidates_of :=
  keeps_of h sc_candidates_of rfl fun f cdv A outer s H E hr =>
    (dss_cons (ds_setF (ps_set (i := 3) sc_candidates_of.nd rfl (Or.inl rfl) (df_list rfl B.list (db_name 1 (pv 1)))))
    (dss_cons (ds_if (dt_cmp (op_eqD hr.units) cd_eq (dv_b (dv_mod (db_name 2 (pv 2)) (dv_b dv_int))) (dv_b dv_int) (nomark _))
    (dss_one (ds_insert 3 (pv 3) (dv_div (db_name 2 (pv 2)) (dv_b dv_int)) (dv_name 0 (pv 0))))
    dss_nil)
    (dss_one (ds_retOwn 3 (pv 3)))))
abbrev s_step : Stmt := top 39
abbrev p_step : List Str := ["program", "configuration", "message"]
abbrev N_step : List Str := ["program", "configuration", "message", "state", "kept", "name", "integer", "position", "rule", "candidates", "keeps", "writes", "source", "channel", "signal", "index"]
theorem sc_step : FnScope N_step p_step (defScope s_step) := ⟨rfl, rfl, rfl, by decide +kernel, rfl, by decide +kernel, by decide +kernel⟩
theorem ok_step {P : Program} {w : World} {K : KF} {mg : Str → Option Value} {base : Heap} (B : Bt K mg) (G_position_of : Keeps P w K mg base "position_of" 1 p_position_of 2 m_position_of) (G_candidates_of : Keeps P w K mg base "candidates_of" 1 p_candidates_of 3 m_candidates_of) (h : Has K mg "step" s_step p_step) : Keeps P w K mg base "step" 2 p_step 3 m_step :=
  keeps_of h sc_step rfl fun f cdv A outer s H E hr =>
    (dss_cons (ds_asg (ps_asg (dv_name 1 (pv 1)) (dg_tup rfl (dgs_cons (dg_name (pg_name (i := 3) sc_step.nd rfl (Or.inl rfl))) (dgs_cons (dg_name (pg_name (i := 4) sc_step.nd rfl (Or.inl rfl))) dgs_nil)))))
    (dss_cons (ds_asg (ps_asg (dv_name 2 (pv 2)) (dg_tup rfl (dgs_cons (dg_name (pg_name (i := 5) sc_step.nd rfl (Or.inl rfl))) (dgs_cons (dg_name (pg_name (i := 6) sc_step.nd rfl (Or.inl rfl))) dgs_nil)))))
    (dss_cons (ds_set (ps_set (i := 7) sc_step.nd rfl (Or.inl rfl) (dv_callK G_position_of (hr.mono (by decide)) (takes_of rfl rfl rfl rfl) rfl (da_cons (dv_name 6 (pv 6)) (da_cons (dv_name 4 (pv 4)) da_nil)) (al_cons (al_cons al_nil)))))
    (dss_cons (ds_set (ps_set (i := 8) sc_step.nd rfl (Or.inl rfl) (dv_get (hu_of hr) (dv_b (dv_attr (db_name 0 (pv 0)))) (dv_tup (da_cons (dv_name 3 (pv 3)) (da_cons (dv_name 5 (pv 5)) (da_cons (dv_name 7 (pv 7)) da_nil)))))))
    (dss_cons (ds_set (ps_set (i := 9) sc_step.nd rfl (Or.inr rfl) (df_v (df_callK G_candidates_of (hr.mono (by decide)) (takes_of rfl rfl rfl rfl) rfl (da_cons (dv_name 6 (pv 6)) (da_cons (dv_name 4 (pv 4)) (da_cons (dv_name 7 (pv 7)) da_nil))) (al_cons (al_cons (al_cons al_nil)))))))
    (dss_cons (ds_set (ps_set (i := 10) sc_step.nd rfl (Or.inl rfl) (dv_tuple rfl B.tuple (df_b (df_lc (W1 := wish mg fun _ _ _ _ => False) (W2 := wish mg fun _ _ _ _ => False) (own := [("source", 12)]) rfl sc_step.nd (di_seq (dv_ix (db_name 8 (pv 8)) (dv_b dv_int))) (blkOk_by (own := [("source", 12)]) (N := N_step) (sc := defScope s_step) (by decide +kernel)) (fun _ _ _ _ _ => (dg_name (pg_name (i := 12) sc_step.nd rfl (Or.inl rfl)))) (fun _ _ _ _ _ => dts_nil) (fun _ _ _ _ _ => (dv_ix (db_name 9 (pv 9)) (db_name 12 (pv 12)))) (by decide))))))
    (dss_cons (ds_set (ps_set (i := 11) sc_step.nd rfl (Or.inl rfl) (dv_tuple rfl B.tuple (df_b (df_lc (W1 := wish mg fun _ _ _ _ => False) (W2 := wish mg fun _ _ _ _ => False) (own := [("channel", 13), ("signal", 14), ("index", 15)]) rfl sc_step.nd (di_seq (dv_ix (db_name 8 (pv 8)) (dv_b dv_int))) (blkOk_by (own := [("channel", 13), ("signal", 14), ("index", 15)]) (N := N_step) (sc := defScope s_step) (by decide +kernel)) (fun _ _ _ _ _ => (dg_tup rfl (dgs_cons (dg_name (pg_name (i := 13) sc_step.nd rfl (Or.inl rfl))) (dgs_cons (dg_name (pg_name (i := 14) sc_step.nd rfl (Or.inl rfl))) (dgs_cons (dg_name (pg_name (i := 15) sc_step.nd rfl (Or.inl rfl))) dgs_nil))))) (fun _ _ _ _ _ => dts_nil) (fun _ _ _ _ _ => (dv_tup (da_cons (dv_name 13 (pv 13)) (da_cons (dv_name 14 (pv 14)) (da_cons (dv_ix (db_name 9 (pv 9)) (db_name 15 (pv 15))) da_nil))))) (by decide))))))
    (dss_one (ds_ret (dv_tup (da_cons (dv_tup (da_cons (dv_ix (db_name 8 (pv 8)) (dv_b dv_int)) (da_cons (dv_name 10 (pv 10)) da_nil))) (da_cons (dv_name 11 (pv 11)) da_nil))))))))))))
abbrev s_names_of : Stmt := top 43
abbrev p_names_of : List Str := ["chain"]
abbrev N_names_of : List Str := ["chain"]
theorem sc_names_of : FnScope N_names_of p_names_of (defScope s_names_of) := ⟨rfl, rfl, rfl, by decide +kernel, rfl, by decide +kernel, by decide +kernel⟩
theorem ok_names_of {P : Program} {w : World} {K : KF} {mg : Str → Option Value} {base : Heap} (B : Bt K mg) (h : Has K mg "names_of" s_names_of p_names_of) : Keeps P w K mg base "names_of" 1 p_names_of 1 m_names_of :=
  keeps_of h sc_names_of rfl fun f cdv A outer s H E hr =>
    (dss_one (ds_ret (dv_attr (dv_b (dv_ix (dv_b (dv_attr (db_name 0 (pv 0)))) (dv_b dv_int))))))
abbrev s_is_configuration : Stmt := top 44
abbrev p_is_configuration : List Str := ["program", "value"]
abbrev N_is_configuration : List Str := ["program", "value", "state", "kept", "integer"]
theorem sc_is_configuration : FnScope N_is_configuration p_is_configuration (defScope s_is_configuration) := ⟨rfl, rfl, rfl, by decide +kernel, rfl, by decide +kernel, by decide +kernel⟩
theorem ok_is_configuration {P : Program} {w : World} {K : KF} {mg : Str → Option Value} {base : Heap} (B : Bt K mg) (G_is_row_of : Keeps P w K mg base "is_row_of" 2 p_is_row_of 3 m_is_row_of) (G_is_row : Keeps P w K mg base "is_row" 1 p_is_row 1 m_is_row) (G_is_index : Keeps P w K mg base "is_index" 2 p_is_index 2 m_is_index) (G_is_ascending : Keeps P w K mg base "is_ascending" 1 p_is_ascending 1 m_is_ascending) (G_is_integer : Keeps P w K mg base "is_integer" 1 p_is_integer 1 m_is_integer) (h : Has K mg "is_configuration" s_is_configuration p_is_configuration) : Keeps P w K mg base "is_configuration" 3 p_is_configuration 2 m_is_configuration :=
  keeps_of h sc_is_configuration rfl fun f cdv A outer s H E hr =>
    (dss_cons (ds_if (dt_not (dt_val (dv_b (dv_callK G_is_row_of (hr.mono (by decide)) (takes_of rfl rfl rfl rfl) rfl (da_cons (dv_name 1 (pv 1)) (da_cons dv_int (da_cons dv_int da_nil))) (al_cons (al_cons (al_cons al_nil)))))))
    (dss_one (ds_ret dv_bl))
    dss_nil)
    (dss_cons (ds_asg (ps_asg (dv_name 1 (pv 1)) (dg_tup rfl (dgs_cons (dg_name (pg_name (i := 2) sc_is_configuration.nd rfl (Or.inl rfl))) (dgs_cons (dg_name (pg_name (i := 3) sc_is_configuration.nd rfl (Or.inl rfl))) dgs_nil)))))
    (dss_cons (ds_if (PW.pt (dw_or (dt_not (dt_val (dv_b (dv_callK G_is_index (hr.mono (by decide)) (takes_of rfl rfl rfl rfl) rfl (da_cons (dv_name 2 (pv 2)) (da_cons (dv_len rfl B.len (dv_b (dv_attr (db_name 0 (pv 0))))) da_nil)) (al_cons (al_cons al_nil)))))) (dw_or (dt_not (dt_val (dv_b (dv_callK G_is_row (hr.mono (by decide)) (takes_of rfl rfl rfl rfl) rfl (da_cons (dv_name 3 (pv 3)) da_nil) (al_cons al_nil))))) (dw_or1 (dt_cmp (op_neD hr.units) cd_ne (dv_b (dv_len rfl B.len (db_name 3 (pv 3)))) (dv_b (dv_ix (dv_b (dv_attr (db_name 0 (pv 0)))) (db_name 2 (pv 2)))) (nomark _))))))
    (dss_one (ds_ret dv_bl))
    dss_nil)
    (dss_one (ds_ret (dv_and (dv_b (dv_all rfl rfl B.all (df_b (df_lc (W1 := wish mg fun _ _ _ _ => False) (W2 := wish mg fun _ _ _ _ => False) (own := [("integer", 4)]) rfl sc_is_configuration.nd (di_seq (dv_name 3 (pv 3))) (blkOk_by (own := [("integer", 4)]) (N := N_is_configuration) (sc := defScope s_is_configuration) (by decide +kernel)) (fun _ _ _ _ _ => (dg_name (pg_name (i := 4) sc_is_configuration.nd rfl (Or.inl rfl)))) (fun _ _ _ _ _ => dts_nil) (fun _ _ _ _ _ => (dv_callK G_is_integer (hr.mono (by decide)) takes0 rfl (da_cons (dv_name 4 (pv 4)) da_nil) (al_cons al_nil))) (by decide))))) (dv_one (dv_callK G_is_ascending (hr.mono (by decide)) (takes_of rfl rfl rfl rfl) rfl (da_cons (dv_name 3 (pv 3)) da_nil) (al_cons al_nil)))))))))
abbrev s_is_beginning : Stmt := top 45
abbrev p_is_beginning : List Str := ["chain", "value"]
abbrev N_is_beginning : List Str := ["chain", "value", "program", "part"]
theorem sc_is_beginning : FnScope N_is_beginning p_is_beginning (defScope s_is_beginning) := ⟨rfl, rfl, rfl, by decide +kernel, rfl, by decide +kernel, by decide +kernel⟩
theorem ok_is_beginning {P : Program} {w : World} {K : KF} {mg : Str → Option Value} {base : Heap} (B : Bt K mg) (G_is_row : Keeps P w K mg base "is_row" 1 p_is_row 1 m_is_row) (G_is_configuration : Keeps P w K mg base "is_configuration" 3 p_is_configuration 2 m_is_configuration) (h : Has K mg "is_beginning" s_is_beginning p_is_beginning) : Keeps P w K mg base "is_beginning" 4 p_is_beginning 2 m_is_beginning :=
  keeps_of h sc_is_beginning rfl fun f cdv A outer s H E hr =>
    (dss_cons (ds_if (PW.pt (dw_or (dt_not (dt_val (dv_b (dv_callK G_is_row (hr.mono (by decide)) (takes_of rfl rfl rfl rfl) rfl (da_cons (dv_name 1 (pv 1)) da_nil) (al_cons al_nil))))) (dw_or1 (dt_cmp (op_neD hr.units) cd_ne (dv_b (dv_len rfl B.len (db_name 1 (pv 1)))) (dv_b (dv_len rfl B.len (dv_b (dv_attr (db_name 0 (pv 0)))))) (nomark _)))))
    (dss_one (ds_ret dv_bl))
    dss_nil)
    (dss_one (ds_ret (dv_all rfl rfl B.all (df_b (df_lc (W1 := wish mg fun _ _ _ _ => False) (W2 := wish mg fun _ _ _ _ => False) (own := [("program", 2), ("part", 3)]) rfl sc_is_beginning.nd (di_zip2 rfl B.zip (dv_attr (db_name 0 (pv 0))) (dv_name 1 (pv 1))) (blkOk_by (own := [("program", 2), ("part", 3)]) (N := N_is_beginning) (sc := defScope s_is_beginning) (by decide +kernel)) (fun _ _ _ _ _ => (dg_tup rfl (dgs_cons (dg_name (pg_name (i := 2) sc_is_beginning.nd rfl (Or.inl rfl))) (dgs_cons (dg_name (pg_name (i := 3) sc_is_beginning.nd rfl (Or.inl rfl))) dgs_nil)))) (fun _ _ _ _ _ => dts_nil) (fun _ _ _ _ _ => (dv_callK G_is_configuration (hr.mono (by decide)) takes0 rfl (da_cons (dv_name 2 (pv 2)) (da_cons (dv_name 3 (pv 3)) da_nil)) (al_cons (al_cons al_nil)))) (by decide)))))))
abbrev s_is_message : Stmt := top 46
abbrev p_is_message : List Str := ["chain", "value"]
abbrev N_is_message : List Str := ["chain", "value"]
theorem sc_is_message : FnScope N_is_message p_is_message (defScope s_is_message) := ⟨rfl, rfl, rfl, by decide +kernel, rfl, by decide +kernel, by decide +kernel⟩
theorem ok_is_message {P : Program} {w : World} {K : KF} {mg : Str → Option Value} {base : Heap} (B : Bt K mg) (G_is_integer : Keeps P w K mg base "is_integer" 1 p_is_integer 1 m_is_integer) (G_names_of : Keeps P w K mg base "names_of" 1 p_names_of 1 m_names_of) (G_is_row_of : Keeps P w K mg base "is_row_of" 2 p_is_row_of 3 m_is_row_of) (h : Has K mg "is_message" s_is_message p_is_message) : Keeps P w K mg base "is_message" 3 p_is_message 2 m_is_message :=
  keeps_of h sc_is_message rfl fun f cdv A outer s H E hr =>
    (dss_one (ds_ret (dv_and (dv_b (dv_callK G_is_row_of (hr.mono (by decide)) (takes_of rfl rfl rfl rfl) rfl (da_cons (dv_name 1 (pv 1)) (da_cons dv_int (da_cons dv_int da_nil))) (al_cons (al_cons (al_cons al_nil))))) (dv_and (dv_b (dv_cmp op_in_seq cd_inS (dv_b (dv_ix (db_name 1 (pv 1)) (dv_b dv_int))) (dv_b (dv_callK G_names_of (hr.mono (by decide)) (takes_of rfl rfl rfl rfl) rfl (da_cons (dv_name 0 (pv 0)) da_nil) (al_cons al_nil))) rfl)) (dv_one (dv_callK G_is_integer (hr.mono (by decide)) (takes_of rfl rfl rfl rfl) rfl (da_cons (dv_ix (db_name 1 (pv 1)) (dv_b dv_int)) da_nil) (al_cons al_nil)))))))
abbrev s_is_input : Stmt := top 47
abbrev p_is_input : List Str := ["chain", "value"]
abbrev N_is_input : List Str := ["chain", "value", "message"]
theorem sc_is_input : FnScope N_is_input p_is_input (defScope s_is_input) := ⟨rfl, rfl, rfl, by decide +kernel, rfl, by decide +kernel, by decide +kernel⟩
theorem ok_is_input {P : Program} {w : World} {K : KF} {mg : Str → Option Value} {base : Heap} (B : Bt K mg) (G_is_message : Keeps P w K mg base "is_message" 3 p_is_message 2 m_is_message) (G_is_row : Keeps P w K mg base "is_row" 1 p_is_row 1 m_is_row) (h : Has K mg "is_input" s_is_input p_is_input) : Keeps P w K mg base "is_input" 4 p_is_input 2 m_is_input :=
  keeps_of h sc_is_input rfl fun f cdv A outer s H E hr =>
    (dss_one (ds_ret (dv_and (dv_b (dv_callK G_is_row (hr.mono (by decide)) (takes_of rfl rfl rfl rfl) rfl (da_cons (dv_name 1 (pv 1)) da_nil) (al_cons al_nil))) (dv_one (dv_all rfl rfl B.all (df_b (df_lc (W1 := wish mg fun _ _ _ _ => False) (W2 := wish mg fun _ _ _ _ => False) (own := [("message", 2)]) rfl sc_is_input.nd (di_seq (dv_name 1 (pv 1))) (blkOk_by (own := [("message", 2)]) (N := N_is_input) (sc := defScope s_is_input) (by decide +kernel)) (fun _ _ _ _ _ => (dg_name (pg_name (i := 2) sc_is_input.nd rfl (Or.inl rfl)))) (fun _ _ _ _ _ => dts_nil) (fun _ _ _ _ _ => (dv_callK G_is_message (hr.mono (by decide)) takes0 rfl (da_cons (dv_name 0 (pv 0)) (da_cons (dv_name 2 (pv 2)) da_nil)) (al_cons (al_cons al_nil)))) (by decide))))))))
abbrev s_heard_by : Stmt := top 48
abbrev p_heard_by : List Str := ["program", "configuration", "messages"]
abbrev N_heard_by : List Str := ["program", "configuration", "messages", "reached", "writes", "message", "more"]
theorem sc_heard_by : FnScope N_heard_by p_heard_by (defScope s_heard_by) := ⟨rfl, rfl, rfl, by decide +kernel, rfl, by decide +kernel, by decide +kernel⟩
theorem ok_heard_by {P : Program} {w : World} {K : KF} {mg : Str → Option Value} {base : Heap} (B : Bt K mg) (G_step : Keeps P w K mg base "step" 2 p_step 3 m_step) (h : Has K mg "heard_by" s_heard_by p_heard_by) : Keeps P w K mg base "heard_by" 3 p_heard_by 3 m_heard_by :=
  keeps_of h sc_heard_by rfl fun f cdv A outer s H E hr =>
    (dss_cons (ds_set (ps_set (i := 3) sc_heard_by.nd rfl (Or.inl rfl) (dv_tup (da_cons (dv_ix (db_name 1 (pv 1)) (dv_b dv_int)) (da_cons (dv_tuple rfl B.tuple (dv_b (dv_ix (db_name 1 (pv 1)) (dv_b dv_int)))) da_nil)))))
    (dss_cons (ds_setF (ps_set (i := 4) sc_heard_by.nd rfl (Or.inl rfl) (df_lst da_nil)))
    (dss_cons (ds_for (passes_of rfl) rfl (di_seq (dv_name 2 (pv 2))) (dg_name (pg_name (i := 5) sc_heard_by.nd rfl (Or.inl rfl)))
    (dss_cons (ds_asg (ps_asg (dv_callK G_step (hr.mono (by decide)) (takes_of rfl rfl rfl rfl) rfl (da_cons (dv_name 0 (pv 0)) (da_cons (dv_name 3 (pv 3)) (da_cons (dv_name 5 (pv 5)) da_nil))) (al_cons (al_cons (al_cons al_nil)))) (dg_tup rfl (dgs_cons (dg_name (pg_name (i := 3) sc_heard_by.nd rfl (Or.inl rfl))) (dgs_cons (dg_name (pg_name (i := 6) sc_heard_by.nd rfl (Or.inl rfl))) dgs_nil)))))
    (dss_one (ds_extend 4 (pv 4) (dv_name 6 (pv 6))))))
    (dss_one (ds_ret (dv_tup (da_cons (dv_name 3 (pv 3)) (da_cons (dv_tuple rfl B.tuple (db_name 4 (pv 4))) da_nil))))))))
abbrev s_messages_on : Stmt := top 49
abbrev p_messages_on : List Str := ["writes", "channel"]
abbrev N_messages_on : List Str := ["writes", "channel", "name", "signal", "integer"]
theorem sc_messages_on : FnScope N_messages_on p_messages_on (defScope s_messages_on) := ⟨rfl, rfl, rfl, by decide +kernel, rfl, by decide +kernel, by decide +kernel⟩
theorem ok_messages_on {P : Program} {w : World} {K : KF} {mg : Str → Option Value} {base : Heap} (B : Bt K mg) (h : Has K mg "messages_on" s_messages_on p_messages_on) : Keeps P w K mg base "messages_on" 1 p_messages_on 2 m_messages_on :=
  keeps_of h sc_messages_on rfl fun f cdv A outer s H E hr =>
    (dss_one (ds_retF (df_lc (W1 := wish mg fun _ _ _ _ => False) (W2 := wish mg fun _ _ _ _ => False) (own := [("name", 2), ("signal", 3), ("integer", 4)]) rfl sc_messages_on.nd (di_seq (dv_name 0 (pv 0))) (blkOk_by (own := [("name", 2), ("signal", 3), ("integer", 4)]) (N := N_messages_on) (sc := defScope s_messages_on) (by decide +kernel)) (fun _ _ _ _ _ => (dg_tup rfl (dgs_cons (dg_name (pg_name (i := 2) sc_messages_on.nd rfl (Or.inl rfl))) (dgs_cons (dg_name (pg_name (i := 3) sc_messages_on.nd rfl (Or.inl rfl))) (dgs_cons (dg_name (pg_name (i := 4) sc_messages_on.nd rfl (Or.inl rfl))) dgs_nil))))) (fun _ _ _ _ _ => (dts_one (dt_cmp (op_eqD hr.units) cd_eq (db_name 2 (pv 2)) (db_name 1 (pv 1)) (nomark _)))) (fun _ _ _ _ _ => (dv_tup (da_cons (dv_name 3 (pv 3)) (da_cons (dv_name 4 (pv 4)) da_nil)))) (by decide))))
abbrev s_chain_step : Stmt := top 50
abbrev p_chain_step : List Str := ["chain", "beginning", "message"]
abbrev N_chain_step : List Str := ["chain", "beginning", "message", "messages", "reached", "parts", "at", "program", "configuration", "writes"]
theorem sc_chain_step : FnScope N_chain_step p_chain_step (defScope s_chain_step) := ⟨rfl, rfl, rfl, by decide +kernel, rfl, by decide +kernel, by decide +kernel⟩
theorem ok_chain_step {P : Program} {w : World} {K : KF} {mg : Str → Option Value} {base : Heap} (B : Bt K mg) (G_heard_by : Keeps P w K mg base "heard_by" 3 p_heard_by 3 m_heard_by) (G_messages_on : Keeps P w K mg base "messages_on" 1 p_messages_on 2 m_messages_on) (h : Has K mg "chain_step" s_chain_step p_chain_step) : Keeps P w K mg base "chain_step" 4 p_chain_step 3 m_chain_step :=
  keeps_of h sc_chain_step rfl fun f cdv A outer s H E hr =>
    (dss_cons (ds_set (ps_set (i := 3) sc_chain_step.nd rfl (Or.inl rfl) (df_v (df_lst (da_cons (dv_name 2 (pv 2)) da_nil)))))
    (dss_cons (ds_setF (ps_set (i := 4) sc_chain_step.nd rfl (Or.inl rfl) (df_lst da_nil)))
    (dss_cons (ds_setF (ps_set (i := 5) sc_chain_step.nd rfl (Or.inl rfl) (df_lst da_nil)))
    (dss_cons (ds_for (passes_of rfl) rfl (di_enum rfl B.enumerate (dv_attr (db_name 0 (pv 0)))) (dg_tup rfl (dgs_cons (dg_name (pg_name (i := 6) sc_chain_step.nd rfl (Or.inl rfl))) (dgs_cons (dg_name (pg_name (i := 7) sc_chain_step.nd rfl (Or.inl rfl))) dgs_nil)))
    (dss_cons (ds_asg (ps_asg (dv_callK G_heard_by (hr.mono (by decide)) (takes_of rfl rfl rfl rfl) rfl (da_cons (dv_name 7 (pv 7)) (da_cons (dv_ix (db_name 1 (pv 1)) (db_name 6 (pv 6))) (da_cons (dv_name 3 (pv 3)) da_nil))) (al_cons (al_cons (al_cons al_nil)))) (dg_tup rfl (dgs_cons (dg_name (pg_name (i := 8) sc_chain_step.nd rfl (Or.inl rfl))) (dgs_cons (dg_name (pg_name (i := 9) sc_chain_step.nd rfl (Or.inl rfl))) dgs_nil)))))
    (dss_cons (ds_append 4 (pv 4) (dv_name 8 (pv 8)))
    (dss_cons (ds_append 5 (pv 5) (dv_tup (da_cons (dv_ix (db_name 8 (pv 8)) (dv_b dv_int)) (da_cons (dv_ix (db_name 8 (pv 8)) (dv_b dv_int)) (da_cons (dv_name 9 (pv 9)) da_nil)))))
    (dss_one (ds_if (dt_cmp op_lt cd_int (db_name 6 (pv 6)) (dv_b (dv_len rfl B.len (dv_b (dv_attr (db_name 0 (pv 0)))))) (nomark _))
    (dss_one (ds_set (ps_set (i := 3) sc_chain_step.nd rfl (Or.inl rfl) (df_v (df_callK G_messages_on (hr.mono (by decide)) (takes_of rfl rfl rfl rfl) rfl (da_cons (dv_name 9 (pv 9)) (da_cons (dv_ix (dv_b (dv_attr (db_name 0 (pv 0)))) (db_name 6 (pv 6))) da_nil)) (al_cons (al_cons al_nil)))))))
    dss_nil))))))
    (dss_one (ds_ret (dv_tup (da_cons (dv_tuple rfl B.tuple (db_name 4 (pv 4))) (da_cons (dv_tuple rfl B.tuple (db_name 5 (pv 5))) da_nil)))))))))
abbrev s_deed_from : Stmt := top 51
abbrev p_deed_from : List Str := ["chain", "beginning", "messages"]
abbrev N_deed_from : List Str := ["chain", "beginning", "messages", "deed", "reached", "message", "done"]
theorem sc_deed_from : FnScope N_deed_from p_deed_from (defScope s_deed_from) := ⟨rfl, rfl, rfl, by decide +kernel, rfl, by decide +kernel, by decide +kernel⟩
theorem ok_deed_from {P : Program} {w : World} {K : KF} {mg : Str → Option Value} {base : Heap} (B : Bt K mg) (G_is_beginning : Keeps P w K mg base "is_beginning" 4 p_is_beginning 2 m_is_beginning) (G_is_input : Keeps P w K mg base "is_input" 4 p_is_input 2 m_is_input) (G_chain_step : Keeps P w K mg base "chain_step" 4 p_chain_step 3 m_chain_step) (h : Has K mg "deed_from" s_deed_from p_deed_from) : Keeps P w K mg base "deed_from" 5 p_deed_from 3 m_deed_from :=
  keeps_of h sc_deed_from rfl fun f cdv A outer s H E hr =>
    (dss_cons (ds_if (dt_not (dt_val (dv_b (dv_callK G_is_beginning (hr.mono (by decide)) (takes_of rfl rfl rfl rfl) rfl (da_cons (dv_name 0 (pv 0)) (da_cons (dv_name 1 (pv 1)) da_nil)) (al_cons (al_cons al_nil))))))
    (dss_one (ds_raise rfl (takes_of rfl rfl rfl rfl) B.R_InvalidBeginning rfl dv_str))
    dss_nil)
    (dss_cons (ds_if (dt_not (dt_val (dv_b (dv_callK G_is_input (hr.mono (by decide)) (takes_of rfl rfl rfl rfl) rfl (da_cons (dv_name 0 (pv 0)) (da_cons (dv_name 2 (pv 2)) da_nil)) (al_cons (al_cons al_nil))))))
    (dss_one (ds_raise rfl (takes_of rfl rfl rfl rfl) B.R_InvalidInput rfl dv_str))
    dss_nil)
    (dss_cons (ds_setF (ps_set (i := 3) sc_deed_from.nd rfl (Or.inl rfl) (df_lst da_nil)))
    (dss_cons (ds_set (ps_set (i := 4) sc_deed_from.nd rfl (Or.inl rfl) (dv_name 1 (pv 1))))
    (dss_cons (ds_for (passes_of rfl) rfl (di_seq (dv_name 2 (pv 2))) (dg_name (pg_name (i := 5) sc_deed_from.nd rfl (Or.inl rfl)))
    (dss_cons (ds_asg (ps_asg (dv_callK G_chain_step (hr.mono (by decide)) (takes_of rfl rfl rfl rfl) rfl (da_cons (dv_name 0 (pv 0)) (da_cons (dv_name 4 (pv 4)) (da_cons (dv_name 5 (pv 5)) da_nil))) (al_cons (al_cons (al_cons al_nil)))) (dg_tup rfl (dgs_cons (dg_name (pg_name (i := 4) sc_deed_from.nd rfl (Or.inl rfl))) (dgs_cons (dg_name (pg_name (i := 6) sc_deed_from.nd rfl (Or.inl rfl))) dgs_nil)))))
    (dss_one (ds_append 3 (pv 3) (dv_name 6 (pv 6))))))
    (dss_one (ds_retOwn 3 (pv 3))))))))
abbrev s_tuples_of : Stmt := top 54
abbrev p_tuples_of : List Str := ["value"]
abbrev N_tuples_of : List Str := ["value", "item"]
theorem sc_tuples_of : FnScope N_tuples_of p_tuples_of (defScope s_tuples_of) := ⟨rfl, rfl, rfl, by decide +kernel, rfl, by decide +kernel, by decide +kernel⟩
theorem okr_tuples_of {P : Program} {w : World} {K : KF} {mg : Str → Option Value} {base : Heap} (B : Bt K mg) (G_is_row : Keeps P w K mg base "is_row" 1 p_is_row 1 m_is_row) (h : Has K mg "tuples_of" s_tuples_of p_tuples_of) : ∀ fuel, Keeps P w K mg base "tuples_of" (2 + fuel) p_tuples_of 1 (m_tuples_of fuel)
  | 0 => keeps_of h sc_tuples_of rfl fun f cdv A outer s H E hr => dss_stuck
  | fuel + 1 => keeps_of h sc_tuples_of rfl fun f cdv A outer s H E hr0 => by
    have G_tuples_of := okr_tuples_of (P := P) (w := w) (base := base) B G_is_row h fuel
    have hr : Room 1 (A.deeper (envOfC "tuples_of" (defScope s_tuples_of) s.heap.objs.size f cdv)) := hr0.mono (show 1 ≤ 2 + fuel by omega)
    have hrr : Room (2 + fuel) (A.deeper (envOfC "tuples_of" (defScope s_tuples_of) s.heap.objs.size f cdv)) := hr0.mono (show 2 + fuel ≤ 2 + fuel from Nat.le_refl _)
    exact
    (dss_cons (ds_if (dt_val (dv_b (dv_callK G_is_row (hr.mono (by decide)) (takes_of rfl rfl rfl rfl) rfl (da_cons (dv_name 0 (pv 0)) da_nil) (al_cons al_nil))))
    (dss_one (ds_ret (dv_tuple rfl B.tuple (df_b (df_lc (W1 := wish mg fun _ _ _ _ => False) (W2 := wish mg fun _ _ _ _ => False) (own := [("item", 1)]) rfl sc_tuples_of.nd (di_seq (dv_name 0 (pv 0))) (blkOk_by (own := [("item", 1)]) (N := N_tuples_of) (sc := defScope s_tuples_of) (by decide +kernel)) (fun _ _ _ _ _ => (dg_name (pg_name (i := 1) sc_tuples_of.nd rfl (Or.inl rfl)))) (fun _ _ _ _ _ => dts_nil) (fun _ _ _ _ _ => (dv_callK G_tuples_of hrr takes0 rfl (da_cons (dv_name 1 (pv 1)) da_nil) (al_cons al_nil))) (by decide))))))
    dss_nil)
    (dss_one (ds_ret (dv_name 0 (pv 0)))))
theorem ok_tuples_of {P : Program} {w : World} {K : KF} {mg : Str → Option Value} {base : Heap} (B : Bt K mg) (G_is_row : Keeps P w K mg base "is_row" 1 p_is_row 1 m_is_row) (h : Has K mg "tuples_of" s_tuples_of p_tuples_of) : Keeps P w K mg base "tuples_of" 10 p_tuples_of 1 (m_tuples_of 8) := okr_tuples_of B G_is_row h 8
abbrev s_integers_in : Stmt := top 55
abbrev p_integers_in : List Str := ["beginning", "messages"]
abbrev N_integers_in : List Str := ["beginning", "messages", "kept", "configuration", "integer", "message"]
theorem sc_integers_in : FnScope N_integers_in p_integers_in (defScope s_integers_in) := ⟨rfl, rfl, rfl, by decide +kernel, rfl, by decide +kernel, by decide +kernel⟩
theorem ok_integers_in {P : Program} {w : World} {K : KF} {mg : Str → Option Value} {base : Heap} (B : Bt K mg) (h : Has K mg "integers_in" s_integers_in p_integers_in) : Keeps P w K mg base "integers_in" 1 p_integers_in 2 m_integers_in :=
  keeps_of h sc_integers_in rfl fun f cdv A outer s H E hr =>
    (dss_cons (ds_setFz (ps_lcN (own := [("configuration", 3), ("integer", 4)]) (i := 2) sc_integers_in.nd rfl rfl (sw_true rfl rfl rfl (by decide +kernel)) (di_seq (dv_name 0 (pv 0))) (blkOk_by (own := [("configuration", 3), ("integer", 4)]) (N := N_integers_in) (sc := defScope s_integers_in) (by decide +kernel)) (fun _ _ _ _ _ _ => (lvl_of (W := wish mg fun _ _ _ _ => False) rfl (fun _ _ h => h) (dg_name (pg_name (i := 3) sc_integers_in.nd rfl (Or.inl rfl))) (onlyD_name 3) dts_nil (inner_next (W := wish mg fun _ _ _ _ => False) (fun _ _ h => h) rfl (fun _ => rfl) (di_seq (dv_ix (db_name 3 (pv 3)) (dv_b dv_int))) (lvl_of (W := wish mg fun _ _ _ _ => False) rfl (fun _ _ h => h) (dg_name (pg_name (i := 4) sc_integers_in.nd rfl (Or.inl rfl))) (onlyD_name 4) dts_nil (inner_elt (W := wish mg fun _ _ _ _ => False) (fun _ _ h => h) (dv_name 4 (pv 4))) reads2_1)) reads2_0))))
    (dss_one (ds_retF (df_sortSet rfl rfl rfl B.sorted B.set (df_b (df_cat (db_name 2 (pv 2)) (df_b (df_lc (W1 := wish mg fun _ _ _ _ => False) (W2 := wish mg fun _ _ _ _ => False) (own := [("message", 5)]) rfl sc_integers_in.nd (di_seq (dv_name 1 (pv 1))) (blkOk_by (own := [("message", 5)]) (N := N_integers_in) (sc := defScope s_integers_in) (by decide +kernel)) (fun _ _ _ _ _ => (dg_name (pg_name (i := 5) sc_integers_in.nd rfl (Or.inl rfl)))) (fun _ _ _ _ _ => dts_nil) (fun _ _ _ _ _ => (dv_ix (db_name 5 (pv 5)) (dv_b dv_int))) (by decide)))))))))
abbrev s_ranks_of : Stmt := top 56
abbrev p_ranks_of : List Str := ["integers"]
abbrev N_ranks_of : List Str := ["integers", "rank", "integer"]
theorem sc_ranks_of : FnScope N_ranks_of p_ranks_of (defScope s_ranks_of) := ⟨rfl, rfl, rfl, by decide +kernel, rfl, by decide +kernel, by decide +kernel⟩
theorem ok_ranks_of {P : Program} {w : World} {K : KF} {mg : Str → Option Value} {base : Heap} (B : Bt K mg) (h : Has K mg "ranks_of" s_ranks_of p_ranks_of) : Keeps P w K mg base "ranks_of" 1 p_ranks_of 1 m_ranks_of :=
  keeps_of h sc_ranks_of rfl fun f cdv A outer s H E hr =>
    (dss_one (ds_ret (dv_dc (W1 := wish mg fun _ _ _ _ => False) (W2 := wish mg fun _ _ _ _ => False) (W3 := wish mg fun _ _ _ _ => False) (own := [("rank", 1), ("integer", 2)]) rfl sc_ranks_of.nd (di_enum rfl B.enumerate (dv_name 0 (pv 0))) (blkOk_by (own := [("rank", 1), ("integer", 2)]) (N := N_ranks_of) (sc := defScope s_ranks_of) (by decide +kernel)) (fun _ _ _ _ _ => (dg_tup rfl (dgs_cons (dg_name (pg_name (i := 1) sc_ranks_of.nd rfl (Or.inl rfl))) (dgs_cons (dg_name (pg_name (i := 2) sc_ranks_of.nd rfl (Or.inl rfl))) dgs_nil)))) (fun _ _ _ _ _ => dts_nil) (fun _ _ _ _ _ => (dv_name 2 (pv 2))) (fun _ _ _ _ _ => (dv_name 1 (pv 1))) (by decide))))
abbrev s_beginning_with : Stmt := top 57
abbrev p_beginning_with : List Str := ["beginning", "others"]
abbrev N_beginning_with : List Str := ["beginning", "others", "state", "kept", "integer"]
theorem sc_beginning_with : FnScope N_beginning_with p_beginning_with (defScope s_beginning_with) := ⟨rfl, rfl, rfl, by decide +kernel, rfl, by decide +kernel, by decide +kernel⟩
theorem ok_beginning_with {P : Program} {w : World} {K : KF} {mg : Str → Option Value} {base : Heap} (B : Bt K mg) (h : Has K mg "beginning_with" s_beginning_with p_beginning_with) : Keeps P w K mg base "beginning_with" 1 p_beginning_with 2 m_beginning_with :=
  keeps_of h sc_beginning_with rfl fun f cdv A outer s H E hr =>
    (dss_one (ds_ret (dv_tuple rfl B.tuple (df_b (df_lc (W1 := wish mg fun _ _ _ _ => False) (W2 := wish mg fun _ _ _ _ => False) (own := [("state", 2), ("kept", 3)]) rfl sc_beginning_with.nd (di_seq (dv_name 0 (pv 0))) (blkOk_by (own := [("state", 2), ("kept", 3)]) (N := N_beginning_with) (sc := defScope s_beginning_with) (by decide +kernel)) (fun _ _ _ _ _ => (dg_tup rfl (dgs_cons (dg_name (pg_name (i := 2) sc_beginning_with.nd rfl (Or.inl rfl))) (dgs_cons (dg_name (pg_name (i := 3) sc_beginning_with.nd rfl (Or.inl rfl))) dgs_nil)))) (fun _ _ _ _ _ => dts_nil) (fun _ _ _ _ _ => (dv_tup (da_cons (dv_name 2 (pv 2)) (da_cons (dv_tuple rfl B.tuple (df_b (df_lc (W1 := wish mg fun _ _ _ _ => False) (W2 := wish mg fun _ _ _ _ => False) (own := [("integer", 4)]) rfl sc_beginning_with.nd (di_seq (dv_name 3 (pv 3))) (BlkOk.re (blkOk_by (own := [("integer", 4)]) (N := N_beginning_with) (sc := { kind := PySem.ScopeKind.function, names := [ (PySem.Str.ofString ".0", PySem.NameKind.local), (PySem.Str.ofString "state", PySem.NameKind.local), (PySem.Str.ofString "kept", PySem.NameKind.local), (PySem.Str.ofString "tuple", PySem.NameKind.globalImplicit), (PySem.Str.ofString "others", PySem.NameKind.free)], isGenerator := false, isCoroutine := false, more := [] : PySem.Scope }) (by decide +kernel))) (fun _ _ _ _ _ => (dg_name (pg_name (i := 4) sc_beginning_with.nd rfl (Or.inl rfl)))) (fun _ _ _ _ _ => dts_nil) (fun _ _ _ _ _ => (dv_ixG (hu_of hr) (db_name 1 (pv 1)) (dv_name 4 (pv 4)))) (by decide)))) da_nil)))) (by decide))))))
abbrev s_messages_with : Stmt := top 58
abbrev p_messages_with : List Str := ["messages", "others"]
abbrev N_messages_with : List Str := ["messages", "others", "name", "integer"]
theorem sc_messages_with : FnScope N_messages_with p_messages_with (defScope s_messages_with) := ⟨rfl, rfl, rfl, by decide +kernel, rfl, by decide +kernel, by decide +kernel⟩
theorem ok_messages_with {P : Program} {w : World} {K : KF} {mg : Str → Option Value} {base : Heap} (B : Bt K mg) (h : Has K mg "messages_with" s_messages_with p_messages_with) : Keeps P w K mg base "messages_with" 1 p_messages_with 2 m_messages_with :=
  keeps_of h sc_messages_with rfl fun f cdv A outer s H E hr =>
    (dss_one (ds_ret (dv_tuple rfl B.tuple (df_b (df_lc (W1 := wish mg fun _ _ _ _ => False) (W2 := wish mg fun _ _ _ _ => False) (own := [("name", 2), ("integer", 3)]) rfl sc_messages_with.nd (di_seq (dv_name 0 (pv 0))) (blkOk_by (own := [("name", 2), ("integer", 3)]) (N := N_messages_with) (sc := defScope s_messages_with) (by decide +kernel)) (fun _ _ _ _ _ => (dg_tup rfl (dgs_cons (dg_name (pg_name (i := 2) sc_messages_with.nd rfl (Or.inl rfl))) (dgs_cons (dg_name (pg_name (i := 3) sc_messages_with.nd rfl (Or.inl rfl))) dgs_nil)))) (fun _ _ _ _ _ => dts_nil) (fun _ _ _ _ _ => (dv_tup (da_cons (dv_name 2 (pv 2)) (da_cons (dv_ixG (hu_of hr) (db_name 1 (pv 1)) (dv_name 3 (pv 3))) da_nil)))) (by decide))))))
abbrev s_part_with : Stmt := top 59
abbrev p_part_with : List Str := ["part", "others"]
abbrev N_part_with : List Str := ["part", "others", "state", "kept", "writes", "keeps", "integer", "channel", "signal"]
theorem sc_part_with : FnScope N_part_with p_part_with (defScope s_part_with) := ⟨rfl, rfl, rfl, by decide +kernel, rfl, by decide +kernel, by decide +kernel⟩
theorem ok_part_with {P : Program} {w : World} {K : KF} {mg : Str → Option Value} {base : Heap} (B : Bt K mg) (h : Has K mg "part_with" s_part_with p_part_with) : Keeps P w K mg base "part_with" 1 p_part_with 2 m_part_with :=
  keeps_of h sc_part_with rfl fun f cdv A outer s H E hr =>
    (dss_cons (ds_asg (ps_asg (dv_name 0 (pv 0)) (dg_tup rfl (dgs_cons (dg_name (pg_name (i := 2) sc_part_with.nd rfl (Or.inl rfl))) (dgs_cons (dg_name (pg_name (i := 3) sc_part_with.nd rfl (Or.inl rfl))) (dgs_cons (dg_name (pg_name (i := 4) sc_part_with.nd rfl (Or.inl rfl))) dgs_nil))))))
    (dss_cons (ds_set (ps_set (i := 5) sc_part_with.nd rfl (Or.inl rfl) (dv_tuple rfl B.tuple (df_b (df_lc (W1 := wish mg fun _ _ _ _ => False) (W2 := wish mg fun _ _ _ _ => False) (own := [("integer", 6)]) rfl sc_part_with.nd (di_seq (dv_name 3 (pv 3))) (blkOk_by (own := [("integer", 6)]) (N := N_part_with) (sc := defScope s_part_with) (by decide +kernel)) (fun _ _ _ _ _ => (dg_name (pg_name (i := 6) sc_part_with.nd rfl (Or.inl rfl)))) (fun _ _ _ _ _ => dts_nil) (fun _ _ _ _ _ => (dv_ixG (hu_of hr) (db_name 1 (pv 1)) (dv_name 6 (pv 6)))) (by decide))))))
    (dss_one (ds_ret (dv_tup (da_cons (dv_name 2 (pv 2)) (da_cons (dv_name 5 (pv 5)) (da_cons (dv_tuple rfl B.tuple (df_b (df_lc (W1 := wish mg fun _ _ _ _ => False) (W2 := wish mg fun _ _ _ _ => False) (own := [("channel", 7), ("signal", 8), ("integer", 6)]) rfl sc_part_with.nd (di_seq (dv_name 4 (pv 4))) (blkOk_by (own := [("channel", 7), ("signal", 8), ("integer", 6)]) (N := N_part_with) (sc := defScope s_part_with) (by decide +kernel)) (fun _ _ _ _ _ => (dg_tup rfl (dgs_cons (dg_name (pg_name (i := 7) sc_part_with.nd rfl (Or.inl rfl))) (dgs_cons (dg_name (pg_name (i := 8) sc_part_with.nd rfl (Or.inl rfl))) (dgs_cons (dg_name (pg_name (i := 6) sc_part_with.nd rfl (Or.inl rfl))) dgs_nil))))) (fun _ _ _ _ _ => dts_nil) (fun _ _ _ _ _ => (dv_tup (da_cons (dv_name 7 (pv 7)) (da_cons (dv_name 8 (pv 8)) (da_cons (dv_ixG (hu_of hr) (db_name 1 (pv 1)) (dv_name 6 (pv 6))) da_nil))))) (by decide)))) da_nil))))))))
abbrev s_steps_with : Stmt := top 60
abbrev p_steps_with : List Str := ["steps", "others"]
abbrev N_steps_with : List Str := ["steps", "others", "done", "part"]
theorem sc_steps_with : FnScope N_steps_with p_steps_with (defScope s_steps_with) := ⟨rfl, rfl, rfl, by decide +kernel, rfl, by decide +kernel, by decide +kernel⟩
theorem ok_steps_with {P : Program} {w : World} {K : KF} {mg : Str → Option Value} {base : Heap} (B : Bt K mg) (G_part_with : Keeps P w K mg base "part_with" 1 p_part_with 2 m_part_with) (h : Has K mg "steps_with" s_steps_with p_steps_with) : Keeps P w K mg base "steps_with" 2 p_steps_with 2 m_steps_with :=
  keeps_of h sc_steps_with rfl fun f cdv A outer s H E hr =>
    (dss_one (ds_retF (df_lc (W1 := wish mg fun _ _ _ _ => False) (W2 := wish mg fun _ _ _ _ => False) (own := [("done", 2)]) rfl sc_steps_with.nd (di_seq (dv_name 0 (pv 0))) (blkOk_by (own := [("done", 2)]) (N := N_steps_with) (sc := defScope s_steps_with) (by decide +kernel)) (fun _ _ _ _ _ => (dg_name (pg_name (i := 2) sc_steps_with.nd rfl (Or.inl rfl)))) (fun _ _ _ _ _ => dts_nil) (fun _ _ _ _ _ => (dv_tuple rfl B.tuple (df_b (df_lc (W1 := wish mg fun _ _ _ _ => False) (W2 := wish mg fun _ _ _ _ => False) (own := [("part", 3)]) rfl sc_steps_with.nd (di_seq (dv_name 2 (pv 2))) (BlkOk.re (blkOk_by (own := [("part", 3)]) (N := N_steps_with) (sc := { kind := PySem.ScopeKind.function, names := [ (PySem.Str.ofString ".0", PySem.NameKind.local), (PySem.Str.ofString "done", PySem.NameKind.local), (PySem.Str.ofString "tuple", PySem.NameKind.globalImplicit), (PySem.Str.ofString "others", PySem.NameKind.free)], isGenerator := false, isCoroutine := false, more := [] : PySem.Scope }) (by decide +kernel))) (fun _ _ _ _ _ => (dg_name (pg_name (i := 3) sc_steps_with.nd rfl (Or.inl rfl)))) (fun _ _ _ _ _ => dts_nil) (fun _ _ _ _ _ => (dv_callK G_part_with (hr.mono (by decide)) takes0 rfl (da_cons (dv_name 3 (pv 3)) (da_cons (dv_name 1 (pv 1)) da_nil)) (al_cons (al_cons al_nil)))) (by decide))))) (by decide))))
abbrev s_ranked : Stmt := top 61
abbrev p_ranked : List Str := ["beginning", "messages"]
abbrev N_ranked : List Str := ["beginning", "messages", "ranks"]
theorem sc_ranked : FnScope N_ranked p_ranked (defScope s_ranked) := ⟨rfl, rfl, rfl, by decide +kernel, rfl, by decide +kernel, by decide +kernel⟩
theorem ok_ranked {P : Program} {w : World} {K : KF} {mg : Str → Option Value} {base : Heap} (B : Bt K mg) (G_ranks_of : Keeps P w K mg base "ranks_of" 1 p_ranks_of 1 m_ranks_of) (G_integers_in : Keeps P w K mg base "integers_in" 1 p_integers_in 2 m_integers_in) (G_beginning_with : Keeps P w K mg base "beginning_with" 1 p_beginning_with 2 m_beginning_with) (G_messages_with : Keeps P w K mg base "messages_with" 1 p_messages_with 2 m_messages_with) (h : Has K mg "ranked" s_ranked p_ranked) : Keeps P w K mg base "ranked" 2 p_ranked 2 m_ranked :=
  keeps_of h sc_ranked rfl fun f cdv A outer s H E hr =>
    (dss_cons (ds_set (ps_set (i := 2) sc_ranked.nd rfl (Or.inl rfl) (dv_callK G_ranks_of (hr.mono (by decide)) (takes_of rfl rfl rfl rfl) rfl (da_cons (df_v (df_callK G_integers_in (hr.mono (by decide)) (takes_of rfl rfl rfl rfl) rfl (da_cons (dv_name 0 (pv 0)) (da_cons (dv_name 1 (pv 1)) da_nil)) (al_cons (al_cons al_nil)))) da_nil) (al_cons al_nil))))
    (dss_one (ds_ret (dv_tup (da_cons (dv_callK G_beginning_with (hr.mono (by decide)) (takes_of rfl rfl rfl rfl) rfl (da_cons (dv_name 0 (pv 0)) (da_cons (dv_name 2 (pv 2)) da_nil)) (al_cons (al_cons al_nil))) (da_cons (dv_callK G_messages_with (hr.mono (by decide)) (takes_of rfl rfl rfl rfl) rfl (da_cons (dv_name 1 (pv 1)) (da_cons (dv_name 2 (pv 2)) da_nil)) (al_cons (al_cons al_nil))) da_nil))))))
abbrev s_is_class_input : Stmt := top 62
abbrev p_is_class_input : List Str := ["chain", "value"]
abbrev N_is_class_input : List Str := ["chain", "value"]
theorem sc_is_class_input : FnScope N_is_class_input p_is_class_input (defScope s_is_class_input) := ⟨rfl, rfl, rfl, by decide +kernel, rfl, by decide +kernel, by decide +kernel⟩
theorem ok_is_class_input {P : Program} {w : World} {K : KF} {mg : Str → Option Value} {base : Heap} (B : Bt K mg) (G_is_input : Keeps P w K mg base "is_input" 4 p_is_input 2 m_is_input) (G_is_row_of : Keeps P w K mg base "is_row_of" 2 p_is_row_of 3 m_is_row_of) (h : Has K mg "is_class_input" s_is_class_input p_is_class_input) : Keeps P w K mg base "is_class_input" 5 p_is_class_input 2 m_is_class_input :=
  keeps_of h sc_is_class_input rfl fun f cdv A outer s H E hr =>
    (dss_one (ds_ret (dv_and (dv_b (dv_callK G_is_row_of (hr.mono (by decide)) (takes_of rfl rfl rfl rfl) rfl (da_cons (dv_name 1 (pv 1)) (da_cons dv_int (da_cons (dv_globI B.MOST_MESSAGES rfl) da_nil))) (al_cons (al_cons (al_cons al_nil))))) (dv_one (dv_callK G_is_input (hr.mono (by decide)) (takes_of rfl rfl rfl rfl) rfl (da_cons (dv_name 0 (pv 0)) (da_cons (dv_name 1 (pv 1)) da_nil)) (al_cons (al_cons al_nil)))))))
abbrev s_demand_class_input : Stmt := top 63
abbrev p_demand_class_input : List Str := ["chain", "messages"]
abbrev N_demand_class_input : List Str := ["chain", "messages"]
theorem sc_demand_class_input : FnScope N_demand_class_input p_demand_class_input (defScope s_demand_class_input) := ⟨rfl, rfl, rfl, by decide +kernel, rfl, by decide +kernel, by decide +kernel⟩
theorem ok_demand_class_input {P : Program} {w : World} {K : KF} {mg : Str → Option Value} {base : Heap} (B : Bt K mg) (G_is_class_input : Keeps P w K mg base "is_class_input" 5 p_is_class_input 2 m_is_class_input) (h : Has K mg "demand_class_input" s_demand_class_input p_demand_class_input) : Keeps P w K mg base "demand_class_input" 6 p_demand_class_input 2 m_demand_class_input :=
  keeps_of h sc_demand_class_input rfl fun f cdv A outer s H E hr =>
    (dss_one (ds_if (dt_not (dt_val (dv_b (dv_callK G_is_class_input (hr.mono (by decide)) (takes_of rfl rfl rfl rfl) rfl (da_cons (dv_name 0 (pv 0)) (da_cons (dv_name 1 (pv 1)) da_nil)) (al_cons (al_cons al_nil))))))
    (dss_one (ds_raise rfl (takes_of rfl rfl rfl rfl) B.R_InvalidInput rfl dv_str))
    dss_nil))
abbrev s_class_of : Stmt := top 64
abbrev p_class_of : List Str := ["chain", "beginning", "messages"]
abbrev N_class_of : List Str := ["chain", "beginning", "messages"]
theorem sc_class_of : FnScope N_class_of p_class_of (defScope s_class_of) := ⟨rfl, rfl, rfl, by decide +kernel, rfl, by decide +kernel, by decide +kernel⟩
theorem ok_class_of {P : Program} {w : World} {K : KF} {mg : Str → Option Value} {base : Heap} (B : Bt K mg) (G_is_beginning : Keeps P w K mg base "is_beginning" 4 p_is_beginning 2 m_is_beginning) (G_demand_class_input : Keeps P w K mg base "demand_class_input" 6 p_demand_class_input 2 m_demand_class_input) (G_ranked : Keeps P w K mg base "ranked" 2 p_ranked 2 m_ranked) (h : Has K mg "class_of" s_class_of p_class_of) : Keeps P w K mg base "class_of" 7 p_class_of 3 m_class_of :=
  keeps_of h sc_class_of rfl fun f cdv A outer s H E hr =>
    (dss_cons (ds_if (dt_not (dt_val (dv_b (dv_callK G_is_beginning (hr.mono (by decide)) (takes_of rfl rfl rfl rfl) rfl (da_cons (dv_name 0 (pv 0)) (da_cons (dv_name 1 (pv 1)) da_nil)) (al_cons (al_cons al_nil))))))
    (dss_one (ds_raise rfl (takes_of rfl rfl rfl rfl) B.R_InvalidBeginning rfl dv_str))
    dss_nil)
    (dss_cons (ds_expr (ps_expr (dv_callK G_demand_class_input (hr.mono (by decide)) (takes_of rfl rfl rfl rfl) rfl (da_cons (dv_name 0 (pv 0)) (da_cons (dv_name 2 (pv 2)) da_nil)) (al_cons (al_cons al_nil)))))
    (dss_one (ds_ret (dv_callK G_ranked (hr.mono (by decide)) (takes_of rfl rfl rfl rfl) rfl (da_cons (dv_name 1 (pv 1)) (da_cons (dv_name 2 (pv 2)) da_nil)) (al_cons (al_cons al_nil)))))))
abbrev s_is_class : Stmt := top 65
abbrev p_is_class : List Str := ["chain", "value"]
abbrev N_is_class : List Str := ["chain", "value", "integers"]
theorem sc_is_class : FnScope N_is_class p_is_class (defScope s_is_class) := ⟨rfl, rfl, rfl, by decide +kernel, rfl, by decide +kernel, by decide +kernel⟩
theorem ok_is_class {P : Program} {w : World} {K : KF} {mg : Str → Option Value} {base : Heap} (B : Bt K mg) (G_is_class_input : Keeps P w K mg base "is_class_input" 5 p_is_class_input 2 m_is_class_input) (G_is_beginning : Keeps P w K mg base "is_beginning" 4 p_is_beginning 2 m_is_beginning) (G_is_row_of : Keeps P w K mg base "is_row_of" 2 p_is_row_of 3 m_is_row_of) (G_integers_in : Keeps P w K mg base "integers_in" 1 p_integers_in 2 m_integers_in) (h : Has K mg "is_class" s_is_class p_is_class) : Keeps P w K mg base "is_class" 6 p_is_class 2 m_is_class :=
  keeps_of h sc_is_class rfl fun f cdv A outer s H E hr =>
    (dss_cons (ds_if (PW.pt (dw_or (dt_not (dt_val (dv_b (dv_callK G_is_row_of (hr.mono (by decide)) (takes_of rfl rfl rfl rfl) rfl (da_cons (dv_name 1 (pv 1)) (da_cons dv_int (da_cons dv_int da_nil))) (al_cons (al_cons (al_cons al_nil))))))) (dw_or (dt_not (dt_val (dv_b (dv_callK G_is_beginning (hr.mono (by decide)) (takes_of rfl rfl rfl rfl) rfl (da_cons (dv_name 0 (pv 0)) (da_cons (dv_ix (db_name 1 (pv 1)) (dv_b dv_int)) da_nil)) (al_cons (al_cons al_nil)))))) (dw_or1 (dt_not (dt_val (dv_b (dv_callK G_is_class_input (hr.mono (by decide)) (takes_of rfl rfl rfl rfl) rfl (da_cons (dv_name 0 (pv 0)) (da_cons (dv_ix (db_name 1 (pv 1)) (dv_b dv_int)) da_nil)) (al_cons (al_cons al_nil))))))))))
    (dss_one (ds_ret dv_bl))
    dss_nil)
    (dss_cons (ds_set (ps_set (i := 2) sc_is_class.nd rfl (Or.inl rfl) (df_v (df_callK G_integers_in (hr.mono (by decide)) (takes_of rfl rfl rfl rfl) rfl (da_cons (dv_ix (db_name 1 (pv 1)) (dv_b dv_int)) (da_cons (dv_ix (db_name 1 (pv 1)) (dv_b dv_int)) da_nil)) (al_cons (al_cons al_nil))))))
    (dss_one (ds_ret (dv_cmp (op_eqD hr.units) cd_eq (db_name 2 (pv 2)) (df_b (df_listRg rfl rfl B.list rfl B.range (dv_b (dv_len rfl B.len (db_name 2 (pv 2)))))) (nomark _))))))
abbrev s_class_from : Stmt := top 66
abbrev p_class_from : List Str := ["chain", "value"]
abbrev N_class_from : List Str := ["chain", "value"]
theorem sc_class_from : FnScope N_class_from p_class_from (defScope s_class_from) := ⟨rfl, rfl, rfl, by decide +kernel, rfl, by decide +kernel, by decide +kernel⟩
theorem ok_class_from {P : Program} {w : World} {K : KF} {mg : Str → Option Value} {base : Heap} (B : Bt K mg) (G_is_class : Keeps P w K mg base "is_class" 6 p_is_class 2 m_is_class) (G_tuples_of : Keeps P w K mg base "tuples_of" 10 p_tuples_of 1 (m_tuples_of 8)) (h : Has K mg "class_from" s_class_from p_class_from) : Keeps P w K mg base "class_from" 11 p_class_from 2 m_class_from :=
  keeps_of h sc_class_from rfl fun f cdv A outer s H E hr =>
    (dss_cons (ds_if (dt_not (dt_val (dv_b (dv_callK G_is_class (hr.mono (by decide)) (takes_of rfl rfl rfl rfl) rfl (da_cons (dv_name 0 (pv 0)) (da_cons (dv_name 1 (pv 1)) da_nil)) (al_cons (al_cons al_nil))))))
    (dss_one (ds_raise rfl (takes_of rfl rfl rfl rfl) B.R_InvalidClass rfl dv_str))
    dss_nil)
    (dss_one (ds_ret (dv_callK G_tuples_of (hr.mono (by decide)) (takes_of rfl rfl rfl rfl) rfl (da_cons (dv_name 1 (pv 1)) da_nil) (al_cons al_nil)))))
abbrev s_is_possible_output : Stmt := top 67
abbrev p_is_possible_output : List Str := ["program", "ranks", "value"]
abbrev N_is_possible_output : List Str := ["program", "ranks", "value", "channel", "signal", "integer"]
theorem sc_is_possible_output : FnScope N_is_possible_output p_is_possible_output (defScope s_is_possible_output) := ⟨rfl, rfl, rfl, by decide +kernel, rfl, by decide +kernel, by decide +kernel⟩
theorem ok_is_possible_output {P : Program} {w : World} {K : KF} {mg : Str → Option Value} {base : Heap} (B : Bt K mg) (G_is_row_of : Keeps P w K mg base "is_row_of" 2 p_is_row_of 3 m_is_row_of) (G_is_index : Keeps P w K mg base "is_index" 2 p_is_index 2 m_is_index) (G_signals_of : Keeps P w K mg base "signals_of" 1 p_signals_of 2 m_signals_of) (h : Has K mg "is_possible_output" s_is_possible_output p_is_possible_output) : Keeps P w K mg base "is_possible_output" 3 p_is_possible_output 3 m_is_possible_output :=
  keeps_of h sc_is_possible_output rfl fun f cdv A outer s H E hr =>
    (dss_cons (ds_if (dt_not (dt_val (dv_b (dv_callK G_is_row_of (hr.mono (by decide)) (takes_of rfl rfl rfl rfl) rfl (da_cons (dv_name 2 (pv 2)) (da_cons dv_int (da_cons dv_int da_nil))) (al_cons (al_cons (al_cons al_nil)))))))
    (dss_one (ds_ret dv_bl))
    dss_nil)
    (dss_cons (ds_asg (ps_asg (dv_name 2 (pv 2)) (dg_tup rfl (dgs_cons (dg_name (pg_name (i := 3) sc_is_possible_output.nd rfl (Or.inl rfl))) (dgs_cons (dg_name (pg_name (i := 4) sc_is_possible_output.nd rfl (Or.inl rfl))) (dgs_cons (dg_name (pg_name (i := 5) sc_is_possible_output.nd rfl (Or.inl rfl))) dgs_nil))))))
    (dss_one (ds_ret (dv_and (dv_b (dv_cmp op_in_seq cd_inS (db_name 4 (pv 4)) (dv_b (dv_callK G_signals_of (hr.mono (by decide)) (takes_of rfl rfl rfl rfl) rfl (da_cons (dv_name 0 (pv 0)) (da_cons (dv_name 3 (pv 3)) da_nil)) (al_cons (al_cons al_nil)))) rfl)) (dv_one (dv_callK G_is_index (hr.mono (by decide)) (takes_of rfl rfl rfl rfl) rfl (da_cons (dv_name 5 (pv 5)) (da_cons (dv_name 1 (pv 1)) da_nil)) (al_cons (al_cons al_nil)))))))))
abbrev s_is_possible_part : Stmt := top 68
abbrev p_is_possible_part : List Str := ["program", "ranks", "most", "value"]
abbrev N_is_possible_part : List Str := ["program", "ranks", "most", "value", "output", "integer"]
theorem sc_is_possible_part : FnScope N_is_possible_part p_is_possible_part (defScope s_is_possible_part) := ⟨rfl, rfl, rfl, by decide +kernel, rfl, by decide +kernel, by decide +kernel⟩
theorem ok_is_possible_part {P : Program} {w : World} {K : KF} {mg : Str → Option Value} {base : Heap} (B : Bt K mg) (G_is_configuration : Keeps P w K mg base "is_configuration" 3 p_is_configuration 2 m_is_configuration) (G_is_row_of : Keeps P w K mg base "is_row_of" 2 p_is_row_of 3 m_is_row_of) (G_is_index : Keeps P w K mg base "is_index" 2 p_is_index 2 m_is_index) (G_is_possible_output : Keeps P w K mg base "is_possible_output" 3 p_is_possible_output 3 m_is_possible_output) (h : Has K mg "is_possible_part" s_is_possible_part p_is_possible_part) : Keeps P w K mg base "is_possible_part" 4 p_is_possible_part 4 m_is_possible_part :=
  keeps_of h sc_is_possible_part rfl fun f cdv A outer s H E hr =>
    (dss_cons (ds_if (PW.pt (dw_or (dt_not (dt_val (dv_b (dv_callK G_is_row_of (hr.mono (by decide)) (takes_of rfl rfl rfl rfl) rfl (da_cons (dv_name 3 (pv 3)) (da_cons dv_int (da_cons dv_int da_nil))) (al_cons (al_cons (al_cons al_nil))))))) (dw_or1 (dt_not (dt_val (dv_b (dv_callK G_is_configuration (hr.mono (by decide)) (takes_of rfl rfl rfl rfl) rfl (da_cons (dv_name 0 (pv 0)) (da_cons (dv_sliceR (db_name 3 (pv 3)) dp_none (dp_some (dv_b dv_int))) da_nil)) (al_cons (al_cons al_nil)))))))))
    (dss_one (ds_ret dv_bl))
    dss_nil)
    (dss_cons (ds_if (PW.pt (dw_or (dt_not (dt_val (dv_b (dv_all rfl rfl B.all (df_b (df_lc (W1 := wish mg fun _ _ _ _ => False) (W2 := wish mg fun _ _ _ _ => False) (own := [("integer", 5)]) rfl sc_is_possible_part.nd (di_seq (dv_ix (db_name 3 (pv 3)) (dv_b dv_int))) (blkOk_by (own := [("integer", 5)]) (N := N_is_possible_part) (sc := defScope s_is_possible_part) (by decide +kernel)) (fun _ _ _ _ _ => (dg_name (pg_name (i := 5) sc_is_possible_part.nd rfl (Or.inl rfl)))) (fun _ _ _ _ _ => dts_nil) (fun _ _ _ _ _ => (dv_callK G_is_index (hr.mono (by decide)) takes0 rfl (da_cons (dv_name 5 (pv 5)) (da_cons (dv_name 1 (pv 1)) da_nil)) (al_cons (al_cons al_nil)))) (by decide))))))) (dw_or1 (dt_not (dt_val (dv_b (dv_callK G_is_row_of (hr.mono (by decide)) (takes_of rfl rfl rfl rfl) rfl (da_cons (dv_ix (db_name 3 (pv 3)) (dv_b dv_int)) (da_cons dv_int (da_cons (dv_name 2 (pv 2)) da_nil))) (al_cons (al_cons (al_cons al_nil))))))))))
    (dss_one (ds_ret dv_bl))
    dss_nil)
    (dss_one (ds_ret (dv_all rfl rfl B.all (df_b (df_lc (W1 := wish mg fun _ _ _ _ => False) (W2 := wish mg fun _ _ _ _ => False) (own := [("output", 4)]) rfl sc_is_possible_part.nd (di_seq (dv_ix (db_name 3 (pv 3)) (dv_b dv_int))) (blkOk_by (own := [("output", 4)]) (N := N_is_possible_part) (sc := defScope s_is_possible_part) (by decide +kernel)) (fun _ _ _ _ _ => (dg_name (pg_name (i := 4) sc_is_possible_part.nd rfl (Or.inl rfl)))) (fun _ _ _ _ _ => dts_nil) (fun _ _ _ _ _ => (dv_callK G_is_possible_output (hr.mono (by decide)) takes0 rfl (da_cons (dv_name 0 (pv 0)) (da_cons (dv_name 1 (pv 1)) (da_cons (dv_name 4 (pv 4)) da_nil))) (al_cons (al_cons (al_cons al_nil))))) (by decide))))))))
abbrev s_is_possible_step : Stmt := top 69
abbrev p_is_possible_step : List Str := ["chain", "ranks", "value"]
abbrev N_is_possible_step : List Str := ["chain", "ranks", "value", "most", "program", "part"]
theorem sc_is_possible_step : FnScope N_is_possible_step p_is_possible_step (defScope s_is_possible_step) := ⟨rfl, rfl, rfl, by decide +kernel, rfl, by decide +kernel, by decide +kernel⟩
theorem ok_is_possible_step {P : Program} {w : World} {K : KF} {mg : Str → Option Value} {base : Heap} (B : Bt K mg) (G_is_row : Keeps P w K mg base "is_row" 1 p_is_row 1 m_is_row) (G_is_possible_part : Keeps P w K mg base "is_possible_part" 4 p_is_possible_part 4 m_is_possible_part) (h : Has K mg "is_possible_step" s_is_possible_step p_is_possible_step) : Keeps P w K mg base "is_possible_step" 5 p_is_possible_step 3 m_is_possible_step :=
  keeps_of h sc_is_possible_step rfl fun f cdv A outer s H E hr =>
    (dss_cons (ds_if (PW.pt (dw_or (dt_not (dt_val (dv_b (dv_callK G_is_row (hr.mono (by decide)) (takes_of rfl rfl rfl rfl) rfl (da_cons (dv_name 2 (pv 2)) da_nil) (al_cons al_nil))))) (dw_or1 (dt_cmp (op_neD hr.units) cd_ne (dv_b (dv_len rfl B.len (db_name 2 (pv 2)))) (dv_b (dv_len rfl B.len (dv_b (dv_attr (db_name 0 (pv 0)))))) (nomark _)))))
    (dss_one (ds_ret dv_bl))
    dss_nil)
    (dss_cons (ds_set (ps_set (i := 3) sc_is_possible_step.nd rfl (Or.inl rfl) dv_int))
    (dss_cons (ds_for (passes_of rfl) rfl (di_zip2 rfl B.zip (dv_attr (db_name 0 (pv 0))) (dv_name 2 (pv 2))) (dg_tup rfl (dgs_cons (dg_name (pg_name (i := 4) sc_is_possible_step.nd rfl (Or.inl rfl))) (dgs_cons (dg_name (pg_name (i := 5) sc_is_possible_step.nd rfl (Or.inl rfl))) dgs_nil)))
    (dss_cons (ds_set (ps_set (i := 3) sc_is_possible_step.nd rfl (Or.inl rfl) (dv_mul (db_name 3 (pv 3)) (dv_b (dv_globI B.MOST_OUTPUTS rfl)))))
    (dss_one (ds_if (dt_not (dt_val (dv_b (dv_callK G_is_possible_part (hr.mono (by decide)) (takes_of rfl rfl rfl rfl) rfl (da_cons (dv_name 4 (pv 4)) (da_cons (dv_name 1 (pv 1)) (da_cons (dv_name 3 (pv 3)) (da_cons (dv_name 5 (pv 5)) da_nil)))) (al_cons (al_cons (al_cons (al_cons al_nil))))))))
    (dss_one (ds_ret dv_bl))
    dss_nil))))
    (dss_one (ds_ret dv_bl)))))
abbrev s_is_deed : Stmt := top 70
abbrev p_is_deed : List Str := ["chain", "some_class", "value"]
abbrev N_is_deed : List Str := ["chain", "some_class", "value", "beginning", "messages", "ranks", "done"]
theorem sc_is_deed : FnScope N_is_deed p_is_deed (defScope s_is_deed) := ⟨rfl, rfl, rfl, by decide +kernel, rfl, by decide +kernel, by decide +kernel⟩
theorem ok_is_deed {P : Program} {w : World} {K : KF} {mg : Str → Option Value} {base : Heap} (B : Bt K mg) (G_is_row : Keeps P w K mg base "is_row" 1 p_is_row 1 m_is_row) (G_integers_in : Keeps P w K mg base "integers_in" 1 p_integers_in 2 m_integers_in) (G_is_possible_step : Keeps P w K mg base "is_possible_step" 5 p_is_possible_step 3 m_is_possible_step) (h : Has K mg "is_deed" s_is_deed p_is_deed) : Keeps P w K mg base "is_deed" 6 p_is_deed 3 m_is_deed :=
  keeps_of h sc_is_deed rfl fun f cdv A outer s H E hr =>
    (dss_cons (ds_asg (ps_asg (dv_name 1 (pv 1)) (dg_tup rfl (dgs_cons (dg_name (pg_name (i := 3) sc_is_deed.nd rfl (Or.inl rfl))) (dgs_cons (dg_name (pg_name (i := 4) sc_is_deed.nd rfl (Or.inl rfl))) dgs_nil)))))
    (dss_cons (ds_if (PW.pt (dw_or (dt_not (dt_val (dv_b (dv_callK G_is_row (hr.mono (by decide)) (takes_of rfl rfl rfl rfl) rfl (da_cons (dv_name 2 (pv 2)) da_nil) (al_cons al_nil))))) (dw_or1 (dt_cmp (op_neD hr.units) cd_ne (dv_b (dv_len rfl B.len (db_name 2 (pv 2)))) (dv_b (dv_len rfl B.len (db_name 4 (pv 4)))) (nomark _)))))
    (dss_one (ds_ret dv_bl))
    dss_nil)
    (dss_cons (ds_set (ps_set (i := 5) sc_is_deed.nd rfl (Or.inr rfl) (dv_len rfl B.len (df_b (df_callK G_integers_in (hr.mono (by decide)) (takes_of rfl rfl rfl rfl) rfl (da_cons (dv_name 3 (pv 3)) (da_cons (dv_name 4 (pv 4)) da_nil)) (al_cons (al_cons al_nil)))))))
    (dss_one (ds_ret (dv_all rfl rfl B.all (df_b (df_lc (W1 := wish mg fun _ _ _ _ => False) (W2 := wish mg fun _ _ _ _ => False) (own := [("done", 6)]) rfl sc_is_deed.nd (di_seq (dv_name 2 (pv 2))) (blkOk_by (own := [("done", 6)]) (N := N_is_deed) (sc := defScope s_is_deed) (by decide +kernel)) (fun _ _ _ _ _ => (dg_name (pg_name (i := 6) sc_is_deed.nd rfl (Or.inl rfl)))) (fun _ _ _ _ _ => dts_nil) (fun _ _ _ _ _ => (dv_callK G_is_possible_step (hr.mono (by decide)) takes0 rfl (da_cons (dv_name 0 (pv 0)) (da_cons (dv_name 5 (pv 5)) (da_cons (dv_name 6 (pv 6)) da_nil))) (al_cons (al_cons (al_cons al_nil))))) (by decide)))))))))
abbrev s_demand_deed : Stmt := top 71
abbrev p_demand_deed : List Str := ["chain", "some_class", "value"]
abbrev N_demand_deed : List Str := ["chain", "some_class", "value"]
theorem sc_demand_deed : FnScope N_demand_deed p_demand_deed (defScope s_demand_deed) := ⟨rfl, rfl, rfl, by decide +kernel, rfl, by decide +kernel, by decide +kernel⟩
theorem ok_demand_deed {P : Program} {w : World} {K : KF} {mg : Str → Option Value} {base : Heap} (B : Bt K mg) (G_is_deed : Keeps P w K mg base "is_deed" 6 p_is_deed 3 m_is_deed) (h : Has K mg "demand_deed" s_demand_deed p_demand_deed) : Keeps P w K mg base "demand_deed" 7 p_demand_deed 3 m_demand_deed :=
  keeps_of h sc_demand_deed rfl fun f cdv A outer s H E hr =>
    (dss_one (ds_if (dt_not (dt_val (dv_b (dv_callK G_is_deed (hr.mono (by decide)) (takes_of rfl rfl rfl rfl) rfl (da_cons (dv_name 0 (pv 0)) (da_cons (dv_name 1 (pv 1)) (da_cons (dv_name 2 (pv 2)) da_nil))) (al_cons (al_cons (al_cons al_nil)))))))
    (dss_one (ds_raise rfl (takes_of rfl rfl rfl rfl) B.R_InvalidDeed rfl dv_str))
    dss_nil))
abbrev s_deed_of : Stmt := top 72
abbrev p_deed_of : List Str := ["chain", "some_class"]
abbrev N_deed_of : List Str := ["chain", "some_class", "beginning", "messages"]
theorem sc_deed_of : FnScope N_deed_of p_deed_of (defScope s_deed_of) := ⟨rfl, rfl, rfl, by decide +kernel, rfl, by decide +kernel, by decide +kernel⟩
theorem ok_deed_of {P : Program} {w : World} {K : KF} {mg : Str → Option Value} {base : Heap} (B : Bt K mg) (G_class_from : Keeps P w K mg base "class_from" 11 p_class_from 2 m_class_from) (G_deed_from : Keeps P w K mg base "deed_from" 5 p_deed_from 3 m_deed_from) (h : Has K mg "deed_of" s_deed_of p_deed_of) : Keeps P w K mg base "deed_of" 12 p_deed_of 2 m_deed_of :=
  keeps_of h sc_deed_of rfl fun f cdv A outer s H E hr =>
    (dss_cons (ds_asg (ps_asg (dv_callK G_class_from (hr.mono (by decide)) (takes_of rfl rfl rfl rfl) rfl (da_cons (dv_name 0 (pv 0)) (da_cons (dv_name 1 (pv 1)) da_nil)) (al_cons (al_cons al_nil))) (dg_tup rfl (dgs_cons (dg_name (pg_name (i := 2) sc_deed_of.nd rfl (Or.inl rfl))) (dgs_cons (dg_name (pg_name (i := 3) sc_deed_of.nd rfl (Or.inl rfl))) dgs_nil)))))
    (dss_one (ds_retF (df_callK G_deed_from (hr.mono (by decide)) (takes_of rfl rfl rfl rfl) rfl (da_cons (dv_name 0 (pv 0)) (da_cons (dv_name 2 (pv 2)) (da_cons (dv_name 3 (pv 3)) da_nil))) (al_cons (al_cons (al_cons al_nil)))))))
abbrev s_served : Stmt := top 73
abbrev p_served : List Str := ["chain", "beginning", "messages", "deed"]
abbrev N_served : List Str := ["chain", "beginning", "messages", "deed"]
theorem sc_served : FnScope N_served p_served (defScope s_served) := ⟨rfl, rfl, rfl, by decide +kernel, rfl, by decide +kernel, by decide +kernel⟩
theorem ok_served {P : Program} {w : World} {K : KF} {mg : Str → Option Value} {base : Heap} (B : Bt K mg) (G_demand_deed : Keeps P w K mg base "demand_deed" 7 p_demand_deed 3 m_demand_deed) (G_class_of : Keeps P w K mg base "class_of" 7 p_class_of 3 m_class_of) (G_steps_with : Keeps P w K mg base "steps_with" 2 p_steps_with 2 m_steps_with) (G_integers_in : Keeps P w K mg base "integers_in" 1 p_integers_in 2 m_integers_in) (h : Has K mg "served" s_served p_served) : Keeps P w K mg base "served" 8 p_served 4 m_served :=
  keeps_of h sc_served rfl fun f cdv A outer s H E hr =>
    (dss_cons (ds_expr (ps_expr (dv_callK G_demand_deed (hr.mono (by decide)) (takes_of rfl rfl rfl rfl) rfl (da_cons (dv_name 0 (pv 0)) (da_cons (dv_callK G_class_of (hr.mono (by decide)) (takes_of rfl rfl rfl rfl) rfl (da_cons (dv_name 0 (pv 0)) (da_cons (dv_name 1 (pv 1)) (da_cons (dv_name 2 (pv 2)) da_nil))) (al_cons (al_cons (al_cons al_nil)))) (da_cons (dv_name 3 (pv 3)) da_nil))) (al_cons (al_cons (al_cons al_nil))))))
    (dss_one (ds_retF (df_callK G_steps_with (hr.mono (by decide)) (takes_of rfl rfl rfl rfl) rfl (da_cons (dv_name 3 (pv 3)) (da_cons (df_v (df_callK G_integers_in (hr.mono (by decide)) (takes_of rfl rfl rfl rfl) rfl (da_cons (dv_name 1 (pv 1)) (da_cons (dv_name 2 (pv 2)) da_nil)) (al_cons (al_cons al_nil)))) da_nil)) (al_cons (al_cons al_nil))))))
abbrev s__law_cell : Stmt := top 75
abbrev p__law_cell : List Str := ["script", "k"]
abbrev N__law_cell : List Str := ["script", "k"]
theorem sc__law_cell : FnScope N__law_cell p__law_cell (defScope s__law_cell) := ⟨rfl, rfl, rfl, by decide +kernel, rfl, by decide +kernel, by decide +kernel⟩
theorem ok__law_cell {P : Program} {w : World} {K : KF} {mg : Str → Option Value} {base : Heap} (B : Bt K mg) (h : Has K mg "_law_cell" s__law_cell p__law_cell) : Keeps P w K mg base "_law_cell" 1 p__law_cell 2 m__law_cell :=
  keeps_of h sc__law_cell rfl fun f cdv A outer s H E hr =>
    (dss_cons (ds_if (dt_cmp op_lt cd_int (db_name 1 (pv 1)) (dv_b (dv_len rfl B.len (db_name 0 (pv 0)))) (nomark _))
    (dss_one (ds_ret (dv_ix (db_name 0 (pv 0)) (db_name 1 (pv 1)))))
    dss_nil)
    (dss_one (ds_ret dv_int)))
abbrev s__law_row : Stmt := top 76
abbrev p__law_row : List Str := ["cell", "count"]
abbrev N__law_row : List Str := ["cell", "count", "row", "rest", "seed", "k"]
theorem sc__law_row : FnScope N__law_row p__law_row (defScope s__law_row) := ⟨rfl, rfl, rfl, by decide +kernel, rfl, by decide +kernel, by decide +kernel⟩
theorem ok__law_row {P : Program} {w : World} {K : KF} {mg : Str → Option Value} {base : Heap} (B : Bt K mg) (h : Has K mg "_law_row" s__law_row p__law_row) : Keeps P w K mg base "_law_row" 1 p__law_row 2 m__law_row :=
  keeps_of h sc__law_row rfl fun f cdv A outer s H E hr =>
    (dss_cons (ds_setF (ps_set (i := 2) sc__law_row.nd rfl (Or.inl rfl) (df_lst da_nil)))
    (dss_cons (ds_set (ps_set (i := 3) sc__law_row.nd rfl (Or.inl rfl) (dv_name 0 (pv 0))))
    (dss_cons (ds_set (ps_set (i := 4) sc__law_row.nd rfl (Or.inl rfl) (dv_add (dv_b (dv_mod (dv_b (dv_int1 rfl B.int (db_name 0 (pv 0)))) (dv_b dv_int))) (dv_b dv_int))))
    (dss_cons (ds_for (passes_of rfl) rfl (di_range1 rfl B.range (db_name 1 (pv 1))) (dg_name (pg_name (i := 5) sc__law_row.nd rfl (Or.inl rfl)))
    (dss_one (ds_if (dt_cmp op_ge cd_int (db_name 0 (pv 0)) (dv_b (dv_pow (dv_b dv_int) (dv_b dv_int))) (nomark _))
    (dss_cons (ds_append 2 (pv 2) (dv_mod (dv_b (dv_int1 rfl B.int (db_name 3 (pv 3)))) (dv_b dv_int)))
    (dss_one (ds_set (ps_set (i := 3) sc__law_row.nd rfl (Or.inl rfl) (dv_div (db_name 3 (pv 3)) (dv_b dv_int))))))
    (dss_cons (ds_set (ps_set (i := 4) sc__law_row.nd rfl (Or.inl rfl) (dv_mod (dv_b (dv_int1 rfl B.int (dv_b (dv_add (dv_b (dv_mul (db_name 4 (pv 4)) (dv_b dv_int))) (db_name 5 (pv 5)))))) (dv_b dv_int))))
    (dss_one (ds_append 2 (pv 2) (dv_mod (dv_b (dv_div (dv_b (dv_mod (dv_b (dv_int1 rfl B.int (dv_b (dv_mul (db_name 4 (pv 4)) (dv_b dv_int))))) (dv_b dv_int))) (dv_b dv_int))) (dv_b dv_int))))))))
    (dss_one (ds_retOwn 2 (pv 2)))))))
abbrev s__law_word : Stmt := top 77
abbrev p__law_word : List Str := ["number"]
abbrev N__law_word : List Str := ["number", "letters", "word"]
theorem sc__law_word : FnScope N__law_word p__law_word (defScope s__law_word) := ⟨rfl, rfl, rfl, by decide +kernel, rfl, by decide +kernel, by decide +kernel⟩
theorem ok__law_word {P : Program} {w : World} {K : KF} {mg : Str → Option Value} {base : Heap} (B : Bt K mg) (h : Has K mg "_law_word" s__law_word p__law_word) : Keeps P w K mg base "_law_word" 1 p__law_word 1 m__law_word :=
  keeps_of h sc__law_word rfl fun f cdv A outer s H E hr =>
    (dss_cons (ds_set (ps_set (i := 1) sc__law_word.nd rfl (Or.inl rfl) dv_str))
    (dss_cons (ds_set (ps_set (i := 2) sc__law_word.nd rfl (Or.inl rfl) (dv_ix (db_name 1 (pv 1)) (dv_b (dv_mod (db_name 0 (pv 0)) (dv_b dv_int))))))
    (dss_cons (ds_if (dt_cmp op_gt cd_int (dv_b (dv_mod (dv_b (dv_div (db_name 0 (pv 0)) (dv_b dv_int))) (dv_b dv_int))) (dv_b dv_int) (nomark _))
    (dss_one (ds_set (ps_set (i := 2) sc__law_word.nd rfl (Or.inl rfl) (dv_add (db_name 2 (pv 2)) (dv_b (dv_ix (db_name 1 (pv 1)) (dv_b (dv_mod (dv_b (dv_div (db_name 0 (pv 0)) (dv_b dv_int))) (dv_b dv_int)))))))))
    dss_nil)
    (dss_cons (ds_if (dt_cmp (op_eqD hr.units) cd_eq (dv_b (dv_mod (dv_b (dv_div (db_name 0 (pv 0)) (dv_b dv_int))) (dv_b dv_int))) (dv_b dv_int) (nomark _))
    (dss_one (ds_set (ps_set (i := 2) sc__law_word.nd rfl (Or.inl rfl) (dv_add (dv_b (dv_add (dv_b (dv_add (db_name 2 (pv 2)) (dv_b (dv_ix (db_name 1 (pv 1)) (dv_b (dv_mod (dv_b (dv_div (db_name 0 (pv 0)) (dv_b dv_int))) (dv_b dv_int))))))) (dv_b (dv_ix (db_name 1 (pv 1)) (dv_b (dv_mod (dv_b (dv_div (db_name 0 (pv 0)) (dv_b dv_int))) (dv_b dv_int))))))) (dv_b (dv_ix (db_name 1 (pv 1)) (dv_b (dv_mod (dv_b (dv_div (db_name 0 (pv 0)) (dv_b dv_int))) (dv_b dv_int)))))))))
    dss_nil)
    (dss_one (ds_ret (dv_name 2 (pv 2))))))))
abbrev s__law_words : Stmt := top 78
abbrev p__law_words : List Str := ["row"]
abbrev N__law_words : List Str := ["row", "words", "k", "word", "turn"]
theorem sc__law_words : FnScope N__law_words p__law_words (defScope s__law_words) := ⟨rfl, rfl, rfl, by decide +kernel, rfl, by decide +kernel, by decide +kernel⟩
theorem ok__law_words {P : Program} {w : World} {K : KF} {mg : Str → Option Value} {base : Heap} (B : Bt K mg) (G__law_word : Keeps P w K mg base "_law_word" 1 p__law_word 1 m__law_word) (h : Has K mg "_law_words" s__law_words p__law_words) : Keeps P w K mg base "_law_words" 2 p__law_words 1 m__law_words :=
  keeps_of h sc__law_words rfl fun f cdv A outer s H E hr =>
    (dss_cons (ds_setF (ps_set (i := 1) sc__law_words.nd rfl (Or.inl rfl) (df_lst da_nil)))
    (dss_cons (ds_for (passes_of rfl) rfl (di_range1 rfl B.range (dv_b (dv_ix (df_b (df_lst (da_cons dv_int (da_cons dv_int (da_cons dv_int (da_cons dv_int (da_cons dv_int (da_cons dv_int (da_cons dv_int (da_cons dv_int da_nil)))))))))) (dv_b (dv_mod (dv_b (dv_ix (db_name 0 (pv 0)) (dv_b dv_int))) (dv_b dv_int)))))) (dg_name (pg_name (i := 2) sc__law_words.nd rfl (Or.inl rfl)))
    (dss_cons (ds_set (ps_set (i := 3) sc__law_words.nd rfl (Or.inl rfl) (dv_callK G__law_word (hr.mono (by decide)) (takes_of rfl rfl rfl rfl) rfl (da_cons (dv_ix (db_name 0 (pv 0)) (db_name 2 (pv 2))) da_nil) (al_cons al_nil))))
    (dss_cons (ds_for (passes_of rfl) rfl (di_range1 rfl B.range (dv_b dv_int)) (dg_name (pg_name (i := 4) sc__law_words.nd rfl (Or.inl rfl)))
    (dss_one (ds_if (dt_cmp op_in_seq cd_inS (db_name 3 (pv 3)) (db_name 1 (pv 1)) rfl)
    (dss_one (ds_set (ps_set (i := 3) sc__law_words.nd rfl (Or.inl rfl) (dv_add (db_name 3 (pv 3)) (dv_b dv_str)))))
    dss_nil)))
    (dss_one (ds_append 1 (pv 1) (dv_name 3 (pv 3)))))))
    (dss_one (ds_ret (dv_tuple rfl B.tuple (db_name 1 (pv 1)))))))
abbrev s__law_sources : Stmt := top 79
abbrev p__law_sources : List Str := ["known", "count", "number"]
abbrev N__law_sources : List Str := ["known", "count", "number", "sources", "k", "at"]
theorem sc__law_sources : FnScope N__law_sources p__law_sources (defScope s__law_sources) := ⟨rfl, rfl, rfl, by decide +kernel, rfl, by decide +kernel, by decide +kernel⟩
theorem ok__law_sources {P : Program} {w : World} {K : KF} {mg : Str → Option Value} {base : Heap} (B : Bt K mg) (h : Has K mg "_law_sources" s__law_sources p__law_sources) : Keeps P w K mg base "_law_sources" 1 p__law_sources 3 m__law_sources :=
  keeps_of h sc__law_sources rfl fun f cdv A outer s H E hr =>
    (dss_cons (ds_set (ps_set (i := 3) sc__law_sources.nd rfl (Or.inl rfl) (df_v (df_listRg rfl rfl B.list rfl B.range (db_name 0 (pv 0))))))
    (dss_cons (ds_for (passes_of rfl) rfl (di_range1 rfl B.range (dv_b (dv_sub (db_name 0 (pv 0)) (db_name 1 (pv 1))))) (dg_name (pg_name (i := 4) sc__law_sources.nd rfl (Or.inl rfl)))
    (dss_cons (ds_set (ps_set (i := 5) sc__law_sources.nd rfl (Or.inl rfl) (dv_mod (dv_b (dv_div (db_name 2 (pv 2)) (dv_b (dv_add (dv_b dv_int) (dv_b (dv_mul (dv_b dv_int) (db_name 4 (pv 4)))))))) (dv_b (dv_len rfl B.len (db_name 3 (pv 3)))))))
    (dss_one (ds_set (ps_set (i := 3) sc__law_sources.nd rfl (Or.inl rfl) (df_v (df_cat (df_b (df_slice (db_name 3 (pv 3)) dp_none (dp_some (db_name 5 (pv 5))))) (df_b (df_slice (db_name 3 (pv 3)) (dp_some (dv_b (dv_add (db_name 5 (pv 5)) (dv_b dv_int)))) dp_none)))))))))
    (dss_one (ds_ret (dv_tuple rfl B.tuple (db_name 3 (pv 3)))))))
abbrev s__law_outputs : Stmt := top 80
abbrev p__law_outputs : List Str := ["channels", "known", "number", "more"]
abbrev N__law_outputs : List Str := ["channels", "known", "number", "more", "outputs", "k", "channel"]
theorem sc__law_outputs : FnScope N__law_outputs p__law_outputs (defScope s__law_outputs) := ⟨rfl, rfl, rfl, by decide +kernel, rfl, by decide +kernel, by decide +kernel⟩
theorem ok__law_outputs {P : Program} {w : World} {K : KF} {mg : Str → Option Value} {base : Heap} (B : Bt K mg) (h : Has K mg "_law_outputs" s__law_outputs p__law_outputs) : Keeps P w K mg base "_law_outputs" 1 p__law_outputs 4 m__law_outputs :=
  keeps_of h sc__law_outputs rfl fun f cdv A outer s H E hr =>
    (dss_cons (ds_setF (ps_set (i := 4) sc__law_outputs.nd rfl (Or.inl rfl) (df_lst da_nil)))
    (dss_cons (ds_for (passes_of rfl) rfl (di_range1 rfl B.range (dv_b (dv_ix (df_b (df_lst (da_cons dv_int (da_cons dv_int (da_cons dv_int (da_cons dv_int (da_cons dv_int (da_cons dv_int da_nil)))))))) (dv_b (dv_mod (db_name 2 (pv 2)) (dv_b dv_int)))))) (dg_name (pg_name (i := 5) sc__law_outputs.nd rfl (Or.inl rfl)))
    (dss_cons (ds_set (ps_set (i := 6) sc__law_outputs.nd rfl (Or.inl rfl) (dv_ix (db_name 0 (pv 0)) (dv_b (dv_mod (dv_b (dv_div (db_name 2 (pv 2)) (dv_b (dv_add (dv_b dv_int) (dv_b (dv_mul (dv_b dv_int) (db_name 5 (pv 5)))))))) (dv_b (dv_len rfl B.len (db_name 0 (pv 0)))))))))
    (dss_one (ds_append 4 (pv 4) (dv_tup (da_cons (dv_ix (db_name 6 (pv 6)) (dv_b dv_int)) (da_cons (dv_ix (dv_b (dv_ix (db_name 6 (pv 6)) (dv_b dv_int))) (dv_b (dv_mod (dv_b (dv_div (db_name 2 (pv 2)) (dv_b (dv_add (dv_b dv_int) (db_name 5 (pv 5)))))) (dv_b (dv_len rfl B.len (dv_b (dv_ix (db_name 6 (pv 6)) (dv_b dv_int)))))))) (da_cons (dv_mod (dv_b (dv_add (db_name 3 (pv 3)) (db_name 5 (pv 5)))) (db_name 1 (pv 1))) da_nil))))))))
    (dss_one (ds_ret (dv_tuple rfl B.tuple (db_name 4 (pv 4)))))))
abbrev s__law_keys : Stmt := top 81
abbrev p__law_keys : List Str := ["names", "states"]
abbrev N__law_keys : List Str := ["names", "states", "keys", "state", "name", "position"]
theorem sc__law_keys : FnScope N__law_keys p__law_keys (defScope s__law_keys) := ⟨rfl, rfl, rfl, by decide +kernel, rfl, by decide +kernel, by decide +kernel⟩
theorem ok__law_keys {P : Program} {w : World} {K : KF} {mg : Str → Option Value} {base : Heap} (B : Bt K mg) (h : Has K mg "_law_keys" s__law_keys p__law_keys) : Keeps P w K mg base "_law_keys" 1 p__law_keys 2 m__law_keys :=
  keeps_of h sc__law_keys rfl fun f cdv A outer s H E hr =>
    (dss_cons (ds_set (ps_set (i := 2) sc__law_keys.nd rfl (Or.inl rfl) (df_v (df_lst da_nil))))
    (dss_cons (ds_for (passes_of rfl) rfl (di_range1 rfl B.range (dv_b (dv_len rfl B.len (db_name 1 (pv 1))))) (dg_name (pg_name (i := 3) sc__law_keys.nd rfl (Or.inr rfl)))
    (dss_one (ds_for (passes_of rfl) rfl (di_seq (dv_name 0 (pv 0))) (dg_name (pg_name (i := 4) sc__law_keys.nd rfl (Or.inr rfl)))
    (dss_one (ds_set (ps_set (i := 2) sc__law_keys.nd rfl (Or.inl rfl) (df_v (df_cat (db_name 2 (pv 2)) (df_b (df_lc (W1 := wish mg fun _ _ _ _ => False) (W2 := wish mg fun _ _ _ _ => False) (own := [("position", 5)]) rfl sc__law_keys.nd (di_range1 rfl B.range (dv_b (dv_add (dv_b (dv_mul (dv_b dv_int) (dv_b (dv_ix (db_name 1 (pv 1)) (db_name 3 (pv 3)))))) (dv_b dv_int)))) (blkOk_by (own := [("position", 5)]) (N := N__law_keys) (sc := defScope s__law_keys) (by decide +kernel)) (fun _ _ _ _ _ => (dg_name (pg_name (i := 5) sc__law_keys.nd rfl (Or.inl rfl)))) (fun _ _ _ _ _ => dts_nil) (fun _ _ _ _ _ => (dv_tup (da_cons (dv_name 3 (pv 3)) (da_cons (dv_name 4 (pv 4)) (da_cons (dv_name 5 (pv 5)) da_nil))))) (by decide)))))))))))
    (dss_one (ds_ret (dv_name 2 (pv 2))))))
abbrev s__law_program : Stmt := top 82
abbrev p__law_program : List Str := ["cell", "names"]
abbrev N__law_program : List Str := ["cell", "names", "row", "states", "channels", "rules", "key", "digits", "known", "targets", "target", "outputs", "k"]
theorem sc__law_program : FnScope N__law_program p__law_program (defScope s__law_program) := ⟨rfl, rfl, rfl, by decide +kernel, rfl, by decide +kernel, by decide +kernel⟩
theorem ok__law_program {P : Program} {w : World} {K : KF} {mg : Str → Option Value} {base : Heap} (B : Bt K mg) (G__law_row : Keeps P w K mg base "_law_row" 1 p__law_row 2 m__law_row) (G__law_words : Keeps P w K mg base "_law_words" 2 p__law_words 1 m__law_words) (G__law_keys : Keeps P w K mg base "_law_keys" 1 p__law_keys 2 m__law_keys) (G__law_outputs : Keeps P w K mg base "_law_outputs" 1 p__law_outputs 4 m__law_outputs) (G__law_sources : Keeps P w K mg base "_law_sources" 1 p__law_sources 3 m__law_sources) (h : Has K mg "_law_program" s__law_program p__law_program) : Keeps P w K mg base "_law_program" 3 p__law_program 2 m__law_program :=
  keeps_of h sc__law_program rfl fun f cdv A outer s H E hr =>
    (dss_cons (ds_set (ps_set (i := 2) sc__law_program.nd rfl (Or.inl rfl) (df_v (df_callK G__law_row (hr.mono (by decide)) (takes_of rfl rfl rfl rfl) rfl (da_cons (dv_name 0 (pv 0)) (da_cons dv_int da_nil)) (al_cons (al_cons al_nil))))))
    (dss_cons (ds_set (ps_set (i := 3) sc__law_program.nd rfl (Or.inr rfl) (dv_sliceT (dv_b (dv_tup (da_cons dv_int (da_cons (dv_mod (dv_b (dv_ix (db_name 2 (pv 2)) (dv_b dv_int))) (dv_b dv_int)) (da_cons (dv_mod (dv_b (dv_ix (db_name 2 (pv 2)) (dv_b dv_int))) (dv_b dv_int)) da_nil))))) dp_none (dp_some (dv_b (dv_add (dv_b dv_int) (dv_b (dv_mod (dv_b (dv_ix (db_name 2 (pv 2)) (dv_b dv_int))) (dv_b (dv_ix (df_b (df_lst (da_cons dv_int (da_cons dv_int (da_cons dv_int (da_cons dv_int da_nil)))))) (dv_b (dv_sub (dv_b (dv_len rfl B.len (db_name 1 (pv 1)))) (dv_b dv_int)))))))))))))
    (dss_cons (ds_if (dt_cmp (op_eqD hr.units) cd_eq (dv_b (dv_mod (dv_b (dv_ix (db_name 2 (pv 2)) (dv_b dv_int))) (dv_b dv_int))) (dv_b dv_int) (nomark _))
    (dss_one (ds_set (ps_set (i := 3) sc__law_program.nd rfl (Or.inr rfl) (dv_sliceT (dv_b (dv_tup (da_cons dv_int (da_cons dv_int (da_cons dv_int (da_cons dv_int (da_cons dv_int da_nil))))))) dp_none (dp_some (dv_b (dv_ix (df_b (df_lst (da_cons (dv_add (dv_b dv_int) (dv_b (dv_mod (dv_b (dv_ix (db_name 2 (pv 2)) (dv_b dv_int))) (dv_b dv_int)))) (da_cons dv_int da_nil)))) (dv_b (dv_div (dv_b (dv_len rfl B.len (db_name 1 (pv 1)))) (dv_b dv_int))))))))))
    dss_nil)
    (dss_cons (ds_set (ps_set (i := 4) sc__law_program.nd rfl (Or.inl rfl) (df_v (df_slice (df_b (df_lst (da_cons (dv_tup (da_cons dv_str (da_cons (dv_callK G__law_words (hr.mono (by decide)) (takes_of rfl rfl rfl rfl) rfl (da_cons (df_v (df_slice (db_name 2 (pv 2)) (dp_some (dv_b dv_int)) (dp_some (dv_b dv_int)))) da_nil) (al_cons al_nil)) da_nil))) (da_cons (dv_tup (da_cons (dv_ix (df_b (df_lst (da_cons dv_str (da_cons dv_str (da_cons dv_str (da_cons dv_str (da_cons dv_str da_nil))))))) (dv_b (dv_mod (dv_b (dv_ix (db_name 2 (pv 2)) (dv_b dv_int))) (dv_b dv_int)))) (da_cons (dv_callK G__law_words (hr.mono (by decide)) (takes_of rfl rfl rfl rfl) rfl (da_cons (df_v (df_slice (db_name 2 (pv 2)) (dp_some (dv_b dv_int)) (dp_some (dv_b dv_int)))) da_nil) (al_cons al_nil)) da_nil))) da_nil)))) dp_none (dp_some (dv_b (dv_add (dv_b dv_int) (dv_b (dv_mod (dv_b (dv_ix (db_name 2 (pv 2)) (dv_b dv_int))) (dv_b dv_int))))))))))
    (dss_cons (ds_setF (ps_set (i := 5) sc__law_program.nd rfl (Or.inl rfl) (df_lst da_nil)))
    (dss_cons (ds_for (passes_of rfl) rfl (di_seq (dv_callK G__law_keys (hr.mono (by decide)) (takes_of rfl rfl rfl rfl) rfl (da_cons (dv_name 1 (pv 1)) (da_cons (dv_name 3 (pv 3)) da_nil)) (al_cons (al_cons al_nil)))) (dg_name (pg_name (i := 6) sc__law_program.nd rfl (Or.inl rfl)))
    (dss_cons (ds_set (ps_set (i := 7) sc__law_program.nd rfl (Or.inl rfl) (df_v (df_slice (db_name 2 (pv 2)) (dp_some (dv_b (dv_add (dv_b dv_int) (dv_b (dv_mul (dv_b dv_int) (dv_b (dv_len rfl B.len (db_name 5 (pv 5))))))))) (dp_some (dv_b (dv_add (dv_b dv_int) (dv_b (dv_mul (dv_b dv_int) (dv_b (dv_len rfl B.len (db_name 5 (pv 5)))))))))))))
    (dss_cons (ds_set (ps_set (i := 8) sc__law_program.nd rfl (Or.inr rfl) (dv_sub (dv_b (dv_add (dv_b (dv_ix (db_name 3 (pv 3)) (dv_b (dv_ix (db_name 6 (pv 6)) (dv_b dv_int))))) (dv_b dv_int))) (dv_b (dv_mod (dv_b (dv_ix (db_name 6 (pv 6)) (dv_b dv_int))) (dv_b dv_int))))))
    (dss_cons (ds_setFz (ps_lcG (W1 := wish mg fun _ _ _ _ => False) (W2 := wish mg fun _ _ _ _ => False) (own := [("k", 12)]) (i := 9) rfl sc__law_program.nd rfl rfl (sw_true rfl rfl rfl (by decide +kernel)) (di_range1 rfl B.range (dv_b (dv_len rfl B.len (db_name 3 (pv 3))))) (blkOk_by (own := [("k", 12)]) (N := N__law_program) (sc := defScope s__law_program) (by decide +kernel)) (fun _ _ _ _ _ => (dg_name (pg_name (i := 12) sc__law_program.nd rfl (Or.inl rfl)))) (fun _ _ _ _ _ => (dts_one (dt_cmp op_le cd_int (dv_b (dv_ix (db_name 3 (pv 3)) (db_name 12 (pv 12)))) (db_name 8 (pv 8)) (nomark _)))) (fun _ _ _ _ _ => (dv_name 12 (pv 12))) (by decide)))
    (dss_cons (ds_set (ps_set (i := 10) sc__law_program.nd rfl (Or.inl rfl) (dv_ix (db_name 9 (pv 9)) (dv_b (dv_mod (dv_b (dv_ix (db_name 7 (pv 7)) (dv_b dv_int))) (dv_b (dv_len rfl B.len (db_name 9 (pv 9)))))))))
    (dss_cons (ds_set (ps_set (i := 11) sc__law_program.nd rfl (Or.inl rfl) (dv_tup da_nil)))
    (dss_cons (ds_if (dt_cmp op_gt cd_int (db_name 8 (pv 8)) (dv_b dv_int) (nomark _))
    (dss_one (ds_set (ps_set (i := 11) sc__law_program.nd rfl (Or.inl rfl) (dv_callK G__law_outputs (hr.mono (by decide)) (takes_of rfl rfl rfl rfl) rfl (da_cons (dv_name 4 (pv 4)) (da_cons (dv_name 8 (pv 8)) (da_cons (dv_ix (db_name 7 (pv 7)) (dv_b dv_int)) (da_cons (dv_ix (db_name 7 (pv 7)) (dv_b dv_int)) da_nil)))) (al_cons (al_cons (al_cons (al_cons al_nil))))))))
    dss_nil)
    (dss_one (ds_append 5 (pv 5) (dv_add (db_name 6 (pv 6)) (dv_b (dv_tup (da_cons (dv_name 10 (pv 10)) (da_cons (dv_callK G__law_sources (hr.mono (by decide)) (takes_of rfl rfl rfl rfl) rfl (da_cons (dv_name 8 (pv 8)) (da_cons (dv_ix (db_name 3 (pv 3)) (db_name 10 (pv 10))) (da_cons (dv_ix (db_name 7 (pv 7)) (dv_b dv_int)) da_nil))) (al_cons (al_cons (al_cons al_nil)))) (da_cons (dv_name 11 (pv 11)) da_nil)))))))))))))))
    (dss_one (ds_retF (df_lst (da_cons (dv_name 1 (pv 1)) (da_cons (dv_tuple rfl B.tuple (db_name 4 (pv 4))) (da_cons (dv_name 3 (pv 3)) (da_cons (dv_tuple rfl B.tuple (db_name 5 (pv 5))) da_nil)))))))))))))
abbrev s__law_chain_plan : Stmt := top 83
abbrev p__law_chain_plan : List Str := ["script"]
abbrev N__law_chain_plan : List Str := ["script", "row", "plans", "links", "k", "channel"]
theorem sc__law_chain_plan : FnScope N__law_chain_plan p__law_chain_plan (defScope s__law_chain_plan) := ⟨rfl, rfl, rfl, by decide +kernel, rfl, by decide +kernel, by decide +kernel⟩
theorem ok__law_chain_plan {P : Program} {w : World} {K : KF} {mg : Str → Option Value} {base : Heap} (B : Bt K mg) (G__law_row : Keeps P w K mg base "_law_row" 1 p__law_row 2 m__law_row) (G__law_cell : Keeps P w K mg base "_law_cell" 1 p__law_cell 2 m__law_cell) (G__law_program : Keeps P w K mg base "_law_program" 3 p__law_program 2 m__law_program) (G__law_words : Keeps P w K mg base "_law_words" 2 p__law_words 1 m__law_words) (h : Has K mg "_law_chain_plan" s__law_chain_plan p__law_chain_plan) : Keeps P w K mg base "_law_chain_plan" 4 p__law_chain_plan 1 m__law_chain_plan :=
  keeps_of h sc__law_chain_plan rfl fun f cdv A outer s H E hr =>
    (dss_cons (ds_set (ps_set (i := 1) sc__law_chain_plan.nd rfl (Or.inl rfl) (df_v (df_callK G__law_row (hr.mono (by decide)) (takes_of rfl rfl rfl rfl) rfl (da_cons (dv_callK G__law_cell (hr.mono (by decide)) (takes_of rfl rfl rfl rfl) rfl (da_cons (dv_name 0 (pv 0)) (da_cons dv_int da_nil)) (al_cons (al_cons al_nil))) (da_cons dv_int da_nil)) (al_cons (al_cons al_nil))))))
    (dss_cons (ds_setF (ps_set (i := 2) sc__law_chain_plan.nd rfl (Or.inl rfl) (df_lst (da_cons (df_v (df_callK G__law_program (hr.mono (by decide)) (takes_of rfl rfl rfl rfl) rfl (da_cons (dv_callK G__law_cell (hr.mono (by decide)) (takes_of rfl rfl rfl rfl) rfl (da_cons (dv_name 0 (pv 0)) (da_cons dv_int da_nil)) (al_cons (al_cons al_nil))) (da_cons (dv_callK G__law_words (hr.mono (by decide)) (takes_of rfl rfl rfl rfl) rfl (da_cons (df_v (df_slice (db_name 1 (pv 1)) dp_none (dp_some (dv_b dv_int)))) da_nil) (al_cons al_nil)) da_nil)) (al_cons (al_cons al_nil)))) da_nil))))
    (dss_cons (ds_setF (ps_set (i := 3) sc__law_chain_plan.nd rfl (Or.inl rfl) (df_lst da_nil)))
    (dss_cons (ds_for (passes_of rfl) rfl (di_range1 rfl B.range (dv_b (dv_mod (dv_b (dv_ix (db_name 1 (pv 1)) (dv_b dv_int))) (dv_b dv_int)))) (dg_name (pg_name (i := 4) sc__law_chain_plan.nd rfl (Or.inl rfl)))
    (dss_cons (ds_set (ps_set (i := 5) sc__law_chain_plan.nd rfl (Or.inl rfl) (dv_ix (dv_b (dv_ix (dv_b (dv_ix (db_name 2 (pv 2)) (dv_b (dv_neg (dv_b dv_int))))) (dv_b dv_int))) (dv_b (dv_mod (dv_b (dv_ix (db_name 1 (pv 1)) (dv_b (dv_add (dv_b dv_int) (db_name 4 (pv 4)))))) (dv_b (dv_len rfl B.len (dv_b (dv_ix (dv_b (dv_ix (db_name 2 (pv 2)) (dv_b (dv_neg (dv_b dv_int))))) (dv_b dv_int))))))))))
    (dss_cons (ds_append 3 (pv 3) (dv_ix (db_name 5 (pv 5)) (dv_b dv_int)))
    (dss_one (ds_append 2 (pv 2) (df_v (df_callK G__law_program (hr.mono (by decide)) (takes_of rfl rfl rfl rfl) rfl (da_cons (dv_add (dv_b (dv_div (dv_b (dv_callK G__law_cell (hr.mono (by decide)) (takes_of rfl rfl rfl rfl) rfl (da_cons (dv_name 0 (pv 0)) (da_cons dv_int da_nil)) (al_cons (al_cons al_nil)))) (dv_b (dv_add (dv_b dv_int) (db_name 4 (pv 4)))))) (dv_b (dv_mul (dv_b dv_int) (db_name 4 (pv 4))))) (da_cons (dv_ix (db_name 5 (pv 5)) (dv_b dv_int)) da_nil)) (al_cons (al_cons al_nil)))))))))
    (dss_one (ds_frz 3 (ds_frz 2 (ds_retF (df_lst (da_cons (dv_name 2 (pv 2)) (da_cons (dv_name 3 (pv 3)) da_nil)))))))))))
abbrev s__law_position : Stmt := top 85
abbrev p__law_position : List Str := ["number", "kept"]
abbrev N__law_position : List Str := ["number", "kept", "less", "value"]
theorem sc__law_position : FnScope N__law_position p__law_position (defScope s__law_position) := ⟨rfl, rfl, rfl, by decide +kernel, rfl, by decide +kernel, by decide +kernel⟩
theorem ok__law_position {P : Program} {w : World} {K : KF} {mg : Str → Option Value} {base : Heap} (B : Bt K mg) (h : Has K mg "_law_position" s__law_position p__law_position) : Keeps P w K mg base "_law_position" 1 p__law_position 2 m__law_position :=
  keeps_of h sc__law_position rfl fun f cdv A outer s H E hr =>
    (dss_cons (ds_set (ps_set (i := 2) sc__law_position.nd rfl (Or.inl rfl) (dv_len rfl B.len (df_b (df_lc (W1 := wish mg fun _ _ _ _ => False) (W2 := wish mg fun _ _ _ _ => False) (own := [("value", 3)]) rfl sc__law_position.nd (di_seq (dv_name 1 (pv 1))) (blkOk_by (own := [("value", 3)]) (N := N__law_position) (sc := defScope s__law_position) (by decide +kernel)) (fun _ _ _ _ _ => (dg_name (pg_name (i := 3) sc__law_position.nd rfl (Or.inl rfl)))) (fun _ _ _ _ _ => (dts_one (dt_cmp op_lt cd_int (db_name 3 (pv 3)) (db_name 0 (pv 0)) (nomark _)))) (fun _ _ _ _ _ => (dv_name 3 (pv 3))) (by decide))))))
    (dss_one (ds_ret (dv_add (dv_b (dv_mul (dv_b dv_int) (db_name 2 (pv 2)))) (dv_b (dv_len rfl B.len (df_b (df_lc (W1 := wish mg fun _ _ _ _ => False) (W2 := wish mg fun _ _ _ _ => False) (own := [("value", 3)]) rfl sc__law_position.nd (di_seq (dv_name 1 (pv 1))) (blkOk_by (own := [("value", 3)]) (N := N__law_position) (sc := defScope s__law_position) (by decide +kernel)) (fun _ _ _ _ _ => (dg_name (pg_name (i := 3) sc__law_position.nd rfl (Or.inl rfl)))) (fun _ _ _ _ _ => (dts_one (dt_cmp (op_eqD hr.units) cd_eq (db_name 3 (pv 3)) (db_name 0 (pv 0)) (nomark _)))) (fun _ _ _ _ _ => (dv_name 3 (pv 3))) (by decide)))))))))
abbrev s__law_step : Stmt := top 86
abbrev p__law_step : List Str := ["plan", "place", "message"]
abbrev N__law_step : List Str := ["plan", "place", "message", "position", "known", "rule", "output", "triple", "k"]
theorem sc__law_step : FnScope N__law_step p__law_step (defScope s__law_step) := ⟨rfl, rfl, rfl, by decide +kernel, rfl, by decide +kernel, by decide +kernel⟩
theorem ok__law_step {P : Program} {w : World} {K : KF} {mg : Str → Option Value} {base : Heap} (B : Bt K mg) (G__law_position : Keeps P w K mg base "_law_position" 1 p__law_position 2 m__law_position) (h : Has K mg "_law_step" s__law_step p__law_step) : Keeps P w K mg base "_law_step" 2 p__law_step 3 m__law_step :=
  keeps_of h sc__law_step rfl fun f cdv A outer s H E hr =>
    (dss_cons (ds_set (ps_set (i := 3) sc__law_step.nd rfl (Or.inl rfl) (dv_callK G__law_position (hr.mono (by decide)) (takes_of rfl rfl rfl rfl) rfl (da_cons (dv_ix (db_name 2 (pv 2)) (dv_b dv_int)) (da_cons (dv_ix (db_name 1 (pv 1)) (dv_b dv_int)) da_nil)) (al_cons (al_cons al_nil)))))
    (dss_cons (ds_set (ps_set (i := 4) sc__law_step.nd rfl (Or.inr rfl) (df_v (df_sorted rfl B.sorted (df_b (df_cat (df_b (df_list rfl B.list (dv_b (dv_ix (db_name 1 (pv 1)) (dv_b dv_int))))) (df_b (df_slice (df_b (df_lst (da_cons (dv_ix (db_name 2 (pv 2)) (dv_b dv_int)) da_nil))) dp_none (dp_some (dv_b (dv_sub (dv_b dv_int) (dv_b (dv_mod (db_name 3 (pv 3)) (dv_b dv_int))))))))))))))
    (dss_cons (ds_for (passes_of rfl) rfl (di_seq (dv_ix (db_name 0 (pv 0)) (dv_b dv_int))) (dg_name (pg_name (i := 5) sc__law_step.nd rfl (Or.inl rfl)))
    (dss_one (ds_if (PW.pt (dw_and (dt_cmp (op_eqD hr.units) cd_eq (dv_b (dv_ix (db_name 5 (pv 5)) (dv_b dv_int))) (dv_b (dv_ix (db_name 1 (pv 1)) (dv_b dv_int))) (nomark _)) (dw_and (dt_cmp (op_eqD hr.units) cd_eq (dv_b (dv_ix (db_name 5 (pv 5)) (dv_b dv_int))) (dv_b (dv_ix (db_name 2 (pv 2)) (dv_b dv_int))) (nomark _)) (dw_and1 (dt_cmp (op_eqD hr.units) cd_eq (dv_b (dv_ix (db_name 5 (pv 5)) (dv_b dv_int))) (db_name 3 (pv 3)) (nomark _))))))
    (dss_cons (ds_set (ps_set (i := 6) sc__law_step.nd rfl (Or.inl rfl) (dv_tuple rfl B.tuple (df_b (df_lc (W1 := wish mg fun _ _ _ _ => False) (W2 := wish mg fun _ _ _ _ => False) (own := [("triple", 7)]) rfl sc__law_step.nd (di_seq (dv_ix (db_name 5 (pv 5)) (dv_b dv_int))) (blkOk_by (own := [("triple", 7)]) (N := N__law_step) (sc := defScope s__law_step) (by decide +kernel)) (fun _ _ _ _ _ => (dg_name (pg_name (i := 7) sc__law_step.nd rfl (Or.inl rfl)))) (fun _ _ _ _ _ => dts_nil) (fun _ _ _ _ _ => (dv_tup (da_cons (dv_ix (db_name 7 (pv 7)) (dv_b dv_int)) (da_cons (dv_ix (db_name 7 (pv 7)) (dv_b dv_int)) (da_cons (dv_ix (db_name 4 (pv 4)) (dv_b (dv_ix (db_name 7 (pv 7)) (dv_b dv_int)))) da_nil))))) (by decide))))))
    (dss_one (ds_retF (df_lst (da_cons (dv_tup (da_cons (dv_ix (db_name 5 (pv 5)) (dv_b dv_int)) (da_cons (dv_tuple rfl B.tuple (df_b (df_lc (W1 := wish mg fun _ _ _ _ => False) (W2 := wish mg fun _ _ _ _ => False) (own := [("k", 8)]) rfl sc__law_step.nd (di_seq (dv_ix (db_name 5 (pv 5)) (dv_b dv_int))) (blkOk_by (own := [("k", 8)]) (N := N__law_step) (sc := defScope s__law_step) (by decide +kernel)) (fun _ _ _ _ _ => (dg_name (pg_name (i := 8) sc__law_step.nd rfl (Or.inl rfl)))) (fun _ _ _ _ _ => dts_nil) (fun _ _ _ _ _ => (dv_ix (db_name 4 (pv 4)) (db_name 8 (pv 8)))) (by decide)))) da_nil))) (da_cons (dv_name 6 (pv 6)) da_nil))))))
    dss_nil)))
    (dss_one (ds_retF (df_lst (da_cons (dv_name 1 (pv 1)) (da_cons (dv_tup da_nil) da_nil))))))))
abbrev s__law_chain_step : Stmt := top 87
abbrev p__law_chain_step : List Str := ["plan", "places", "message"]
abbrev N__law_chain_step : List Str := ["plan", "places", "message", "heard", "following", "parts", "k", "place", "output", "one", "some", "triple"]
theorem sc__law_chain_step : FnScope N__law_chain_step p__law_chain_step (defScope s__law_chain_step) := ⟨rfl, rfl, rfl, by decide +kernel, rfl, by decide +kernel, by decide +kernel⟩
theorem ok__law_chain_step {P : Program} {w : World} {K : KF} {mg : Str → Option Value} {base : Heap} (B : Bt K mg) (G__law_step : Keeps P w K mg base "_law_step" 2 p__law_step 3 m__law_step) (h : Has K mg "_law_chain_step" s__law_chain_step p__law_chain_step) : Keeps P w K mg base "_law_chain_step" 3 p__law_chain_step 3 m__law_chain_step :=
  keeps_of h sc__law_chain_step rfl fun f cdv A outer s H E hr =>
    (dss_cons (ds_set (ps_set (i := 3) sc__law_chain_step.nd rfl (Or.inl rfl) (df_v (df_lst (da_cons (dv_name 2 (pv 2)) da_nil)))))
    (dss_cons (ds_setF (ps_set (i := 4) sc__law_chain_step.nd rfl (Or.inl rfl) (df_lst da_nil)))
    (dss_cons (ds_setF (ps_set (i := 5) sc__law_chain_step.nd rfl (Or.inl rfl) (df_lst da_nil)))
    (dss_cons (ds_for (passes_of rfl) rfl (di_range1 rfl B.range (dv_b (dv_len rfl B.len (dv_b (dv_ix (db_name 0 (pv 0)) (dv_b dv_int)))))) (dg_name (pg_name (i := 6) sc__law_chain_step.nd rfl (Or.inr rfl)))
    (dss_cons (ds_set (ps_set (i := 7) sc__law_chain_step.nd rfl (Or.inl rfl) (dv_ix (db_name 1 (pv 1)) (db_name 6 (pv 6)))))
    (dss_cons (ds_set (ps_set (i := 8) sc__law_chain_step.nd rfl (Or.inl rfl) (dv_tup da_nil)))
    (dss_cons (ds_for (passes_of rfl) rfl (di_seq (dv_name 3 (pv 3))) (dg_name (pg_name (i := 9) sc__law_chain_step.nd rfl (Or.inl rfl)))
    (dss_cons (ds_asg (ps_asg (df_v (df_callK G__law_step (hr.mono (by decide)) (takes_of rfl rfl rfl rfl) rfl (da_cons (dv_ix (dv_b (dv_ix (db_name 0 (pv 0)) (dv_b dv_int))) (db_name 6 (pv 6))) (da_cons (dv_name 7 (pv 7)) (da_cons (dv_name 9 (pv 9)) da_nil))) (al_cons (al_cons (al_cons al_nil))))) (dg_tup rfl (dgs_cons (dg_name (pg_name (i := 7) sc__law_chain_step.nd rfl (Or.inl rfl))) (dgs_cons (dg_name (pg_name (i := 10) sc__law_chain_step.nd rfl (Or.inl rfl))) dgs_nil)))))
    (dss_one (ds_set (ps_set (i := 8) sc__law_chain_step.nd rfl (Or.inl rfl) (dv_add (db_name 8 (pv 8)) (db_name 10 (pv 10))))))))
    (dss_cons (ds_append 4 (pv 4) (dv_name 7 (pv 7)))
    (dss_cons (ds_append 5 (pv 5) (dv_tup (da_cons (dv_ix (db_name 7 (pv 7)) (dv_b dv_int)) (da_cons (dv_ix (db_name 7 (pv 7)) (dv_b dv_int)) (da_cons (dv_name 8 (pv 8)) da_nil)))))
    (dss_one (ds_if (dt_cmp op_lt cd_int (db_name 6 (pv 6)) (dv_b (dv_len rfl B.len (dv_b (dv_ix (db_name 0 (pv 0)) (dv_b dv_int))))) (nomark _))
    (dss_one (ds_setFz (ps_lcG (W1 := wish mg fun _ _ _ _ => False) (W2 := wish mg fun _ _ _ _ => False) (own := [("triple", 11)]) (i := 3) rfl sc__law_chain_step.nd rfl rfl (sw_true rfl rfl rfl (by decide +kernel)) (di_seq (dv_name 8 (pv 8))) (blkOk_by (own := [("triple", 11)]) (N := N__law_chain_step) (sc := defScope s__law_chain_step) (by decide +kernel)) (fun _ _ _ _ _ => (dg_name (pg_name (i := 11) sc__law_chain_step.nd rfl (Or.inl rfl)))) (fun _ _ _ _ _ => (dts_one (dt_cmp (op_eqD hr.units) cd_eq (dv_b (dv_ix (db_name 11 (pv 11)) (dv_b dv_int))) (dv_b (dv_ix (dv_b (dv_ix (db_name 0 (pv 0)) (dv_b dv_int))) (db_name 6 (pv 6)))) (nomark _)))) (fun _ _ _ _ _ => (dv_tup (da_cons (dv_ix (db_name 11 (pv 11)) (dv_b dv_int)) (da_cons (dv_ix (db_name 11 (pv 11)) (dv_b dv_int)) da_nil)))) (by decide))))
    dss_nil))))))))
    (dss_one (ds_retF (df_lst (da_cons (dv_tuple rfl B.tuple (db_name 4 (pv 4))) (da_cons (dv_tuple rfl B.tuple (db_name 5 (pv 5))) da_nil)))))))))
abbrev s__law_deed : Stmt := top 88
abbrev p__law_deed : List Str := ["plan", "places", "messages"]
abbrev N__law_deed : List Str := ["plan", "places", "messages", "deed", "message", "part"]
theorem sc__law_deed : FnScope N__law_deed p__law_deed (defScope s__law_deed) := ⟨rfl, rfl, rfl, by decide +kernel, rfl, by decide +kernel, by decide +kernel⟩
theorem ok__law_deed {P : Program} {w : World} {K : KF} {mg : Str → Option Value} {base : Heap} (B : Bt K mg) (G__law_chain_step : Keeps P w K mg base "_law_chain_step" 3 p__law_chain_step 3 m__law_chain_step) (h : Has K mg "_law_deed" s__law_deed p__law_deed) : Keeps P w K mg base "_law_deed" 4 p__law_deed 3 m__law_deed :=
  keeps_of h sc__law_deed rfl fun f cdv A outer s H E hr =>
    (dss_cons (ds_setF (ps_set (i := 3) sc__law_deed.nd rfl (Or.inl rfl) (df_lst da_nil)))
    (dss_cons (ds_for (passes_of rfl) rfl (di_seq (dv_name 2 (pv 2))) (dg_name (pg_name (i := 4) sc__law_deed.nd rfl (Or.inl rfl)))
    (dss_cons (ds_asg (ps_asg (df_v (df_callK G__law_chain_step (hr.mono (by decide)) (takes_of rfl rfl rfl rfl) rfl (da_cons (dv_name 0 (pv 0)) (da_cons (dv_name 1 (pv 1)) (da_cons (dv_name 4 (pv 4)) da_nil))) (al_cons (al_cons (al_cons al_nil))))) (dg_tup rfl (dgs_cons (dg_name (pg_name (i := 1) sc__law_deed.nd rfl (Or.inl rfl))) (dgs_cons (dg_name (pg_name (i := 5) sc__law_deed.nd rfl (Or.inl rfl))) dgs_nil)))))
    (dss_one (ds_append 3 (pv 3) (dv_name 5 (pv 5))))))
    (dss_one (ds_frz 3 (ds_retF (df_lst (da_cons (dv_name 3 (pv 3)) (da_cons (dv_name 1 (pv 1)) da_nil))))))))
abbrev s__law_start : Stmt := top 89
abbrev p__law_start : List Str := ["plan"]
abbrev N__law_start : List Str := ["plan", "one"]
theorem sc__law_start : FnScope N__law_start p__law_start (defScope s__law_start) := ⟨rfl, rfl, rfl, by decide +kernel, rfl, by decide +kernel, by decide +kernel⟩
theorem ok__law_start {P : Program} {w : World} {K : KF} {mg : Str → Option Value} {base : Heap} (B : Bt K mg) (h : Has K mg "_law_start" s__law_start p__law_start) : Keeps P w K mg base "_law_start" 1 p__law_start 1 m__law_start :=
  keeps_of h sc__law_start rfl fun f cdv A outer s H E hr =>
    (dss_one (ds_ret (dv_tuple rfl B.tuple (df_b (df_lc (W1 := wish mg fun _ _ _ _ => False) (W2 := wish mg fun _ _ _ _ => False) (own := [("one", 1)]) rfl sc__law_start.nd (di_seq (dv_ix (db_name 0 (pv 0)) (dv_b dv_int))) (blkOk_by (own := [("one", 1)]) (N := N__law_start) (sc := defScope s__law_start) (by decide +kernel)) (fun _ _ _ _ _ => (dg_name (pg_name (i := 1) sc__law_start.nd rfl (Or.inl rfl)))) (fun _ _ _ _ _ => dts_nil) (fun _ _ _ _ _ => (dv_tup (da_cons dv_int (da_cons (dv_tup da_nil) da_nil)))) (by decide))))))
abbrev s__law_input : Stmt := top 90
abbrev p__law_input : List Str := ["plan", "cell", "size"]
abbrev N__law_input : List Str := ["plan", "cell", "size", "messages", "names", "number", "message"]
theorem sc__law_input : FnScope N__law_input p__law_input (defScope s__law_input) := ⟨rfl, rfl, rfl, by decide +kernel, rfl, by decide +kernel, by decide +kernel⟩
theorem ok__law_input {P : Program} {w : World} {K : KF} {mg : Str → Option Value} {base : Heap} (B : Bt K mg) (G__law_row : Keeps P w K mg base "_law_row" 1 p__law_row 2 m__law_row) (h : Has K mg "_law_input" s__law_input p__law_input) : Keeps P w K mg base "_law_input" 2 p__law_input 3 m__law_input :=
  keeps_of h sc__law_input rfl fun f cdv A outer s H E hr =>
    (dss_cons (ds_setF (ps_set (i := 3) sc__law_input.nd rfl (Or.inl rfl) (df_lst da_nil)))
    (dss_cons (ds_set (ps_set (i := 4) sc__law_input.nd rfl (Or.inl rfl) (dv_ix (dv_b (dv_ix (dv_b (dv_ix (db_name 0 (pv 0)) (dv_b dv_int))) (dv_b dv_int))) (dv_b dv_int))))
    (dss_cons (ds_for (passes_of rfl) rfl (di_seq (df_v (df_callK G__law_row (hr.mono (by decide)) (takes_of rfl rfl rfl rfl) rfl (da_cons (dv_name 1 (pv 1)) (da_cons (dv_name 2 (pv 2)) da_nil)) (al_cons (al_cons al_nil))))) (dg_name (pg_name (i := 5) sc__law_input.nd rfl (Or.inl rfl)))
    (dss_one (ds_append 3 (pv 3) (dv_tup (da_cons (dv_ix (db_name 4 (pv 4)) (dv_b (dv_mod (db_name 5 (pv 5)) (dv_b (dv_len rfl B.len (db_name 4 (pv 4))))))) (da_cons (dv_sub (dv_b (dv_mod (dv_b (dv_div (db_name 5 (pv 5)) (dv_b dv_int))) (dv_b (dv_ix (df_b (df_lst (da_cons dv_int (da_cons dv_int da_nil)))) (dv_b (dv_int1 rfl B.int (dv_b (dv_cmp (op_eqD hr.units) cd_eq (dv_b (dv_mod (dv_b (dv_int1 rfl B.int (db_name 1 (pv 1)))) (dv_b dv_int))) (dv_b dv_int) (nomark _))))))))) (dv_b dv_int)) da_nil))))))
    (dss_cons (ds_if (dt_cmp (op_eqD hr.units) cd_eq (dv_b (dv_mod (dv_b (dv_int1 rfl B.int (db_name 1 (pv 1)))) (dv_b dv_int))) (dv_b dv_int) (nomark _))
    (dss_one (ds_frz 3 (ds_setF (ps_lcG (W1 := wish mg fun _ _ _ _ => False) (W2 := wish mg fun _ _ _ _ => False) (own := [("message", 6)]) (i := 3) rfl sc__law_input.nd rfl rfl (sw_true rfl rfl rfl (by decide +kernel)) (di_seq (dv_name 3 (pv 3))) (blkOk_by (own := [("message", 6)]) (N := N__law_input) (sc := defScope s__law_input) (by decide +kernel)) (fun _ _ _ _ _ => (dg_name (pg_name (i := 6) sc__law_input.nd rfl (Or.inl rfl)))) (fun _ _ _ _ _ => dts_nil) (fun _ _ _ _ _ => (dv_tup (da_cons (dv_ix (db_name 6 (pv 6)) (dv_b dv_int)) (da_cons (dv_add (dv_b (dv_mul (dv_b (dv_ix (db_name 6 (pv 6)) (dv_b dv_int))) (dv_b dv_int))) (dv_b dv_int)) da_nil)))) (by decide)))))
    dss_nil)
    (dss_one (ds_retOwn 3 (pv 3)))))))
abbrev s__law_beginning : Stmt := top 91
abbrev p__law_beginning : List Str := ["plan", "cell"]
abbrev N__law_beginning : List Str := ["plan", "cell", "row", "places", "k", "states", "state", "kept", "at"]
theorem sc__law_beginning : FnScope N__law_beginning p__law_beginning (defScope s__law_beginning) := ⟨rfl, rfl, rfl, by decide +kernel, rfl, by decide +kernel, by decide +kernel⟩
theorem ok__law_beginning {P : Program} {w : World} {K : KF} {mg : Str → Option Value} {base : Heap} (B : Bt K mg) (G__law_row : Keeps P w K mg base "_law_row" 1 p__law_row 2 m__law_row) (h : Has K mg "_law_beginning" s__law_beginning p__law_beginning) : Keeps P w K mg base "_law_beginning" 2 p__law_beginning 2 m__law_beginning :=
  keeps_of h sc__law_beginning rfl fun f cdv A outer s H E hr =>
    (dss_cons (ds_set (ps_set (i := 2) sc__law_beginning.nd rfl (Or.inl rfl) (df_v (df_callK G__law_row (hr.mono (by decide)) (takes_of rfl rfl rfl rfl) rfl (da_cons (dv_name 1 (pv 1)) (da_cons dv_int da_nil)) (al_cons (al_cons al_nil))))))
    (dss_cons (ds_setF (ps_set (i := 3) sc__law_beginning.nd rfl (Or.inl rfl) (df_lst da_nil)))
    (dss_cons (ds_for (passes_of rfl) rfl (di_range1 rfl B.range (dv_b (dv_len rfl B.len (dv_b (dv_ix (db_name 0 (pv 0)) (dv_b dv_int)))))) (dg_name (pg_name (i := 4) sc__law_beginning.nd rfl (Or.inl rfl)))
    (dss_cons (ds_set (ps_set (i := 5) sc__law_beginning.nd rfl (Or.inl rfl) (dv_ix (dv_b (dv_ix (dv_b (dv_ix (db_name 0 (pv 0)) (dv_b dv_int))) (db_name 4 (pv 4)))) (dv_b dv_int))))
    (dss_cons (ds_set (ps_set (i := 6) sc__law_beginning.nd rfl (Or.inl rfl) (dv_mod (dv_b (dv_ix (db_name 2 (pv 2)) (dv_b (dv_mul (dv_b dv_int) (db_name 4 (pv 4)))))) (dv_b (dv_len rfl B.len (db_name 5 (pv 5)))))))
    (dss_cons (ds_setF (ps_set (i := 7) sc__law_beginning.nd rfl (Or.inl rfl) (df_lst da_nil)))
    (dss_cons (ds_for (passes_of rfl) rfl (di_range1 rfl B.range (dv_b (dv_ix (db_name 5 (pv 5)) (db_name 6 (pv 6))))) (dg_name (pg_name (i := 8) sc__law_beginning.nd rfl (Or.inl rfl)))
    (dss_one (ds_append 7 (pv 7) (dv_add (dv_b (dv_sub (dv_b (dv_mod (dv_b (dv_ix (db_name 2 (pv 2)) (dv_b (dv_add (dv_b (dv_add (dv_b (dv_mul (dv_b dv_int) (db_name 4 (pv 4)))) (dv_b dv_int))) (db_name 8 (pv 8)))))) (dv_b dv_int))) (dv_b dv_int))) (dv_b (dv_mul (dv_b dv_int) (db_name 8 (pv 8))))))))
    (dss_one (ds_append 3 (pv 3) (dv_tup (da_cons (dv_name 6 (pv 6)) (da_cons (dv_tuple rfl B.tuple (db_name 7 (pv 7))) da_nil))))))))))
    (dss_one (ds_ret (dv_tuple rfl B.tuple (db_name 3 (pv 3))))))))
abbrev s__law_integers : Stmt := top 92
abbrev p__law_integers : List Str := ["places", "messages"]
abbrev N__law_integers : List Str := ["places", "messages", "found", "place", "message", "n"]
theorem sc__law_integers : FnScope N__law_integers p__law_integers (defScope s__law_integers) := ⟨rfl, rfl, rfl, by decide +kernel, rfl, by decide +kernel, by decide +kernel⟩
theorem ok__law_integers {P : Program} {w : World} {K : KF} {mg : Str → Option Value} {base : Heap} (B : Bt K mg) (h : Has K mg "_law_integers" s__law_integers p__law_integers) : Keeps P w K mg base "_law_integers" 1 p__law_integers 2 m__law_integers :=
  keeps_of h sc__law_integers rfl fun f cdv A outer s H E hr =>
    (dss_cons (ds_setF (ps_set (i := 2) sc__law_integers.nd rfl (Or.inr rfl) (df_lst da_nil)))
    (dss_cons (ds_for (passes_of rfl) rfl (di_seq (dv_name 0 (pv 0))) (dg_name (pg_name (i := 3) sc__law_integers.nd rfl (Or.inl rfl)))
    (dss_one (ds_setF (ps_set (i := 2) sc__law_integers.nd rfl (Or.inr rfl) (df_cat (db_name 2 (pv 2)) (df_b (df_lc (W1 := wish mg fun _ _ _ _ => False) (W2 := wish mg fun _ _ _ _ => False) (own := [("n", 5)]) rfl sc__law_integers.nd (di_seq (dv_ix (db_name 3 (pv 3)) (dv_b dv_int))) (blkOk_by (own := [("n", 5)]) (N := N__law_integers) (sc := defScope s__law_integers) (by decide +kernel)) (fun _ _ _ _ _ => (dg_name (pg_name (i := 5) sc__law_integers.nd rfl (Or.inl rfl)))) (fun _ _ _ _ _ => (dts_one (dt_cmp (op_notAmong (roomA hr)) cd_notInA (db_name 5 (pv 5)) (db_name 2 (pv 2)) rfl))) (fun _ _ _ _ _ => (dv_name 5 (pv 5))) (by decide))))))))
    (dss_cons (ds_for (passes_of rfl) rfl (di_seq (dv_name 1 (pv 1))) (dg_name (pg_name (i := 4) sc__law_integers.nd rfl (Or.inl rfl)))
    (dss_one (ds_if (dt_cmp (op_notAmong (roomA hr)) cd_notInA (dv_b (dv_ix (db_name 4 (pv 4)) (dv_b dv_int))) (db_name 2 (pv 2)) rfl)
    (dss_one (ds_append 2 (pv 2) (dv_ix (db_name 4 (pv 4)) (dv_b dv_int))))
    dss_nil)))
    (dss_one (ds_retF (df_sorted rfl B.sorted (db_name 2 (pv 2))))))))
abbrev s__law_rank : Stmt := top 93
abbrev p__law_rank : List Str := ["numbers", "number"]
abbrev N__law_rank : List Str := ["numbers", "number", "n"]
theorem sc__law_rank : FnScope N__law_rank p__law_rank (defScope s__law_rank) := ⟨rfl, rfl, rfl, by decide +kernel, rfl, by decide +kernel, by decide +kernel⟩
theorem ok__law_rank {P : Program} {w : World} {K : KF} {mg : Str → Option Value} {base : Heap} (B : Bt K mg) (h : Has K mg "_law_rank" s__law_rank p__law_rank) : Keeps P w K mg base "_law_rank" 1 p__law_rank 2 m__law_rank :=
  keeps_of h sc__law_rank rfl fun f cdv A outer s H E hr =>
    (dss_one (ds_ret (dv_len rfl B.len (df_b (df_lc (W1 := wish mg fun _ _ _ _ => False) (W2 := wish mg fun _ _ _ _ => False) (own := [("n", 2)]) rfl sc__law_rank.nd (di_seq (dv_name 0 (pv 0))) (blkOk_by (own := [("n", 2)]) (N := N__law_rank) (sc := defScope s__law_rank) (by decide +kernel)) (fun _ _ _ _ _ => (dg_name (pg_name (i := 2) sc__law_rank.nd rfl (Or.inl rfl)))) (fun _ _ _ _ _ => (dts_one (dt_cmp op_lt cd_int (db_name 2 (pv 2)) (db_name 1 (pv 1)) (nomark _)))) (fun _ _ _ _ _ => (dv_name 2 (pv 2))) (by decide))))))
abbrev s__law_class : Stmt := top 94
abbrev p__law_class : List Str := ["places", "messages"]
abbrev N__law_class : List Str := ["places", "messages", "numbers", "ranked_v", "place", "message", "n"]
theorem sc__law_class : FnScope N__law_class p__law_class (defScope s__law_class) := ⟨rfl, rfl, rfl, by decide +kernel, rfl, by decide +kernel, by decide +kernel⟩
theorem ok__law_class {P : Program} {w : World} {K : KF} {mg : Str → Option Value} {base : Heap} (B : Bt K mg) (G__law_integers : Keeps P w K mg base "_law_integers" 1 p__law_integers 2 m__law_integers) (G__law_rank : Keeps P w K mg base "_law_rank" 1 p__law_rank 2 m__law_rank) (h : Has K mg "_law_class" s__law_class p__law_class) : Keeps P w K mg base "_law_class" 2 p__law_class 2 m__law_class :=
  keeps_of h sc__law_class rfl fun f cdv A outer s H E hr =>
    (dss_cons (ds_set (ps_set (i := 2) sc__law_class.nd rfl (Or.inr rfl) (df_v (df_callK G__law_integers (hr.mono (by decide)) (takes_of rfl rfl rfl rfl) rfl (da_cons (dv_name 0 (pv 0)) (da_cons (dv_name 1 (pv 1)) da_nil)) (al_cons (al_cons al_nil))))))
    (dss_cons (ds_set (ps_set (i := 3) sc__law_class.nd rfl (Or.inl rfl) (dv_tuple rfl B.tuple (df_b (df_lc (W1 := wish mg fun _ _ _ _ => False) (W2 := wish mg fun _ _ _ _ => False) (own := [("place", 4)]) rfl sc__law_class.nd (di_seq (dv_name 0 (pv 0))) (blkOk_by (own := [("place", 4)]) (N := N__law_class) (sc := defScope s__law_class) (by decide +kernel)) (fun _ _ _ _ _ => (dg_name (pg_name (i := 4) sc__law_class.nd rfl (Or.inl rfl)))) (fun _ _ _ _ _ => dts_nil) (fun _ _ _ _ _ => (dv_tup (da_cons (dv_ix (db_name 4 (pv 4)) (dv_b dv_int)) (da_cons (dv_tuple rfl B.tuple (df_b (df_lc (W1 := wish mg fun _ _ _ _ => False) (W2 := wish mg fun _ _ _ _ => False) (own := [("n", 6)]) rfl sc__law_class.nd (di_seq (dv_ix (db_name 4 (pv 4)) (dv_b dv_int))) (BlkOk.re (blkOk_by (own := [("n", 6)]) (N := N__law_class) (sc := { kind := PySem.ScopeKind.function, names := [ (PySem.Str.ofString ".0", PySem.NameKind.local), (PySem.Str.ofString "place", PySem.NameKind.local), (PySem.Str.ofString "tuple", PySem.NameKind.globalImplicit), (PySem.Str.ofString "numbers", PySem.NameKind.free)], isGenerator := false, isCoroutine := false, more := [] : PySem.Scope }) (by decide +kernel))) (fun _ _ _ _ _ => (dg_name (pg_name (i := 6) sc__law_class.nd rfl (Or.inl rfl)))) (fun _ _ _ _ _ => dts_nil) (fun _ _ _ _ _ => (dv_callK G__law_rank (hr.mono (by decide)) takes0 rfl (da_cons (dv_name 2 (pv 2)) (da_cons (dv_name 6 (pv 6)) da_nil)) (al_cons (al_cons al_nil)))) (by decide)))) da_nil)))) (by decide))))))
    (dss_one (ds_ret (dv_tup (da_cons (dv_name 3 (pv 3)) (da_cons (dv_tuple rfl B.tuple (df_b (df_lc (W1 := wish mg fun _ _ _ _ => False) (W2 := wish mg fun _ _ _ _ => False) (own := [("message", 5)]) rfl sc__law_class.nd (di_seq (dv_name 1 (pv 1))) (blkOk_by (own := [("message", 5)]) (N := N__law_class) (sc := defScope s__law_class) (by decide +kernel)) (fun _ _ _ _ _ => (dg_name (pg_name (i := 5) sc__law_class.nd rfl (Or.inl rfl)))) (fun _ _ _ _ _ => dts_nil) (fun _ _ _ _ _ => (dv_tup (da_cons (dv_ix (db_name 5 (pv 5)) (dv_b dv_int)) (da_cons (dv_callK G__law_rank (hr.mono (by decide)) takes0 rfl (da_cons (dv_name 2 (pv 2)) (da_cons (dv_ix (db_name 5 (pv 5)) (dv_b dv_int)) da_nil)) (al_cons (al_cons al_nil))) da_nil)))) (by decide)))) da_nil)))))))
abbrev s__law_mapped : Stmt := top 95
abbrev p__law_mapped : List Str := ["deed", "numbers"]
abbrev N__law_mapped : List Str := ["deed", "numbers", "result", "part", "row", "triple", "output", "one", "n"]
theorem sc__law_mapped : FnScope N__law_mapped p__law_mapped (defScope s__law_mapped) := ⟨rfl, rfl, rfl, by decide +kernel, rfl, by decide +kernel, by decide +kernel⟩
theorem ok__law_mapped {P : Program} {w : World} {K : KF} {mg : Str → Option Value} {base : Heap} (B : Bt K mg) (h : Has K mg "_law_mapped" s__law_mapped p__law_mapped) : Keeps P w K mg base "_law_mapped" 1 p__law_mapped 2 m__law_mapped :=
  keeps_of h sc__law_mapped rfl fun f cdv A outer s H E hr =>
    (dss_cons (ds_setF (ps_set (i := 2) sc__law_mapped.nd rfl (Or.inl rfl) (df_lst da_nil)))
    (dss_cons (ds_for (passes_of rfl) rfl (di_seq (dv_name 0 (pv 0))) (dg_name (pg_name (i := 3) sc__law_mapped.nd rfl (Or.inl rfl)))
    (dss_cons (ds_setF (ps_set (i := 4) sc__law_mapped.nd rfl (Or.inl rfl) (df_lst da_nil)))
    (dss_cons (ds_for (passes_of rfl) rfl (di_seq (dv_name 3 (pv 3))) (dg_name (pg_name (i := 5) sc__law_mapped.nd rfl (Or.inl rfl)))
    (dss_cons (ds_set (ps_set (i := 6) sc__law_mapped.nd rfl (Or.inl rfl) (dv_tuple rfl B.tuple (df_b (df_lc (W1 := wish mg fun _ _ _ _ => False) (W2 := wish mg fun _ _ _ _ => False) (own := [("one", 7)]) rfl sc__law_mapped.nd (di_seq (dv_ix (db_name 5 (pv 5)) (dv_b dv_int))) (blkOk_by (own := [("one", 7)]) (N := N__law_mapped) (sc := defScope s__law_mapped) (by decide +kernel)) (fun _ _ _ _ _ => (dg_name (pg_name (i := 7) sc__law_mapped.nd rfl (Or.inl rfl)))) (fun _ _ _ _ _ => dts_nil) (fun _ _ _ _ _ => (dv_tup (da_cons (dv_ix (db_name 7 (pv 7)) (dv_b dv_int)) (da_cons (dv_ix (db_name 7 (pv 7)) (dv_b dv_int)) (da_cons (dv_ix (db_name 1 (pv 1)) (dv_b (dv_ix (db_name 7 (pv 7)) (dv_b dv_int)))) da_nil))))) (by decide))))))
    (dss_one (ds_append 4 (pv 4) (dv_tup (da_cons (dv_ix (db_name 5 (pv 5)) (dv_b dv_int)) (da_cons (dv_tuple rfl B.tuple (df_b (df_lc (W1 := wish mg fun _ _ _ _ => False) (W2 := wish mg fun _ _ _ _ => False) (own := [("n", 8)]) rfl sc__law_mapped.nd (di_seq (dv_ix (db_name 5 (pv 5)) (dv_b dv_int))) (blkOk_by (own := [("n", 8)]) (N := N__law_mapped) (sc := defScope s__law_mapped) (by decide +kernel)) (fun _ _ _ _ _ => (dg_name (pg_name (i := 8) sc__law_mapped.nd rfl (Or.inl rfl)))) (fun _ _ _ _ _ => dts_nil) (fun _ _ _ _ _ => (dv_ix (db_name 1 (pv 1)) (db_name 8 (pv 8)))) (by decide)))) (da_cons (dv_name 6 (pv 6)) da_nil))))))))
    (dss_one (ds_append 2 (pv 2) (dv_tuple rfl B.tuple (db_name 4 (pv 4))))))))
    (dss_one (ds_retOwn 2 (pv 2)))))
abbrev s_Chain : Stmt := inClass (top 42) 0
abbrev p_Chain : List Str := ["self", "programs", "links"]
abbrev N_Chain : List Str := ["self", "programs", "links", "earlier", "link", "later", "program"]
theorem sc_Chain : FnScope N_Chain p_Chain (defScope s_Chain) := ⟨rfl, rfl, rfl, by decide +kernel, rfl, by decide +kernel, by decide +kernel⟩
theorem ok_Chain {P : Program} {w : World} {K : KF} {mg : Str → Option Value} {base : Heap} (B : Bt K mg) (G_is_row_of : Keeps P w K mg base "is_row_of" 2 p_is_row_of 3 m_is_row_of) (G_signals_of : Keeps P w K mg base "signals_of" 1 p_signals_of 2 m_signals_of) (h : HasI K mg "Chain" all_Chain s_Chain p_Chain "Chain.__init__") : KeepsI P w K mg base "Chain" all_Chain 3 p_Chain 2 m_Chain :=
  keepsI_of h sc_Chain rfl fun f cdv A outer s H E hr =>
    (dss_cons (ds_if (dt_not (dt_val (dv_b (dv_callK G_is_row_of (hr.mono (by decide)) (takes_of rfl rfl rfl rfl) rfl (da_cons (dv_name 1 (pv 1)) (da_cons dv_int (da_cons (dv_globI B.MOST_PROGRAMS rfl) da_nil))) (al_cons (al_cons (al_cons al_nil)))))))
    (dss_one (ds_raise rfl (takes_of rfl rfl rfl rfl) B.R_InvalidChain rfl dv_str))
    dss_nil)
    (dss_cons (ds_if (dt_not (dt_val (dv_b (dv_all rfl rfl B.all (df_b (df_lc (W1 := wish mg fun _ _ _ _ => False) (W2 := wish mg fun _ _ _ _ => False) (own := [("program", 6)]) rfl sc_Chain.nd (di_seq (dv_name 1 (pv 1))) (blkOk_by (own := [("program", 6)]) (N := N_Chain) (sc := defScope s_Chain) (by decide +kernel)) (fun _ _ _ _ _ => (dg_name (pg_name (i := 6) sc_Chain.nd rfl (Or.inl rfl)))) (fun _ _ _ _ _ => dts_nil) (fun _ _ _ _ _ => (dv_isO rfl B.isinstance B.I_Program rfl (db_name 6 (pv 6)))) (by decide)))))))
    (dss_one (ds_raise rfl (takes_of rfl rfl rfl rfl) B.R_InvalidChain rfl dv_str))
    dss_nil)
    (dss_cons (ds_if (dt_not (dt_val (dv_b (dv_callK G_is_row_of (hr.mono (by decide)) (takes_of rfl rfl rfl rfl) rfl (da_cons (dv_name 2 (pv 2)) (da_cons (dv_sub (dv_b (dv_len rfl B.len (db_name 1 (pv 1)))) (dv_b dv_int)) (da_cons (dv_sub (dv_b (dv_len rfl B.len (db_name 1 (pv 1)))) (dv_b dv_int)) da_nil))) (al_cons (al_cons (al_cons al_nil)))))))
    (dss_one (ds_raise rfl (takes_of rfl rfl rfl rfl) B.R_InvalidChain rfl dv_str))
    dss_nil)
    (dss_cons (ds_for (passes_of rfl) rfl (di_zip3 rfl B.zip (dv_name 1 (pv 1)) (dv_name 2 (pv 2)) (dv_sliceR (db_name 1 (pv 1)) (dp_some (dv_b dv_int)) dp_none)) (dg_tup rfl (dgs_cons (dg_name (pg_name (i := 3) sc_Chain.nd rfl (Or.inl rfl))) (dgs_cons (dg_name (pg_name (i := 4) sc_Chain.nd rfl (Or.inl rfl))) (dgs_cons (dg_name (pg_name (i := 5) sc_Chain.nd rfl (Or.inl rfl))) dgs_nil))))
    (dss_one (ds_if (dt_cmp (op_neD hr.units) cd_ne (dv_b (dv_callK G_signals_of (hr.mono (by decide)) (takes_of rfl rfl rfl rfl) rfl (da_cons (dv_name 3 (pv 3)) (da_cons (dv_name 4 (pv 4)) da_nil)) (al_cons (al_cons al_nil)))) (dv_b (dv_attr (db_name 5 (pv 5)))) (nomark _))
    (dss_one (ds_raise rfl (takes_of rfl rfl rfl rfl) B.R_InvalidChain rfl dv_str))
    dss_nil)))
    (dss_cons (ds_fld 0 (pv 0) (dv_tuple rfl B.tuple (db_name 1 (pv 1))))
    (dss_one (ds_fld 0 (pv 0) (dv_tuple rfl B.tuple (db_name 2 (pv 2))))))))))
theorem ok_Chain__D {P : Program} {w : World} {K : KF} {mg : Str → Option Value} {base : Heap} (B : Bt K mg) (G_is_row_of : Keeps P w K mg base "is_row_of" 2 p_is_row_of 3 m_is_row_of) (G_signals_of : Keeps P w K mg base "signals_of" 1 p_signals_of 2 m_signals_of) (h : HasID K mg "Chain" all_Chain s_Chain p_Chain "Chain.__init__") : KeepsID P w K mg base "Chain" all_Chain 3 p_Chain 2 m_Chain :=
  keepsID_of h sc_Chain rfl fun f cdv A outer s H E hr =>
    (dss_cons (ds_if (dt_not (dt_val (dv_b (dv_callK G_is_row_of (hr.mono (by decide)) (takes_of rfl rfl rfl rfl) rfl (da_cons (dv_name 1 (pv 1)) (da_cons dv_int (da_cons (dv_globI B.MOST_PROGRAMS rfl) da_nil))) (al_cons (al_cons (al_cons al_nil)))))))
    (dss_one (ds_raise rfl (takes_of rfl rfl rfl rfl) B.R_InvalidChain rfl dv_str))
    dss_nil)
    (dss_cons (ds_if (dt_not (dt_val (dv_b (dv_all rfl rfl B.all (df_b (df_lc (W1 := wish mg fun _ _ _ _ => False) (W2 := wish mg fun _ _ _ _ => False) (own := [("program", 6)]) rfl sc_Chain.nd (di_seq (dv_name 1 (pv 1))) (blkOk_by (own := [("program", 6)]) (N := N_Chain) (sc := defScope s_Chain) (by decide +kernel)) (fun _ _ _ _ _ => (dg_name (pg_name (i := 6) sc_Chain.nd rfl (Or.inl rfl)))) (fun _ _ _ _ _ => dts_nil) (fun _ _ _ _ _ => (dv_isO rfl B.isinstance B.I_Program rfl (db_name 6 (pv 6)))) (by decide)))))))
    (dss_one (ds_raise rfl (takes_of rfl rfl rfl rfl) B.R_InvalidChain rfl dv_str))
    dss_nil)
    (dss_cons (ds_if (dt_not (dt_val (dv_b (dv_callK G_is_row_of (hr.mono (by decide)) (takes_of rfl rfl rfl rfl) rfl (da_cons (dv_name 2 (pv 2)) (da_cons (dv_sub (dv_b (dv_len rfl B.len (db_name 1 (pv 1)))) (dv_b dv_int)) (da_cons (dv_sub (dv_b (dv_len rfl B.len (db_name 1 (pv 1)))) (dv_b dv_int)) da_nil))) (al_cons (al_cons (al_cons al_nil)))))))
    (dss_one (ds_raise rfl (takes_of rfl rfl rfl rfl) B.R_InvalidChain rfl dv_str))
    dss_nil)
    (dss_cons (ds_for (passes_of rfl) rfl (di_zip3 rfl B.zip (dv_name 1 (pv 1)) (dv_name 2 (pv 2)) (dv_sliceR (db_name 1 (pv 1)) (dp_some (dv_b dv_int)) dp_none)) (dg_tup rfl (dgs_cons (dg_name (pg_name (i := 3) sc_Chain.nd rfl (Or.inl rfl))) (dgs_cons (dg_name (pg_name (i := 4) sc_Chain.nd rfl (Or.inl rfl))) (dgs_cons (dg_name (pg_name (i := 5) sc_Chain.nd rfl (Or.inl rfl))) dgs_nil))))
    (dss_one (ds_if (dt_cmp (op_neD hr.units) cd_ne (dv_b (dv_callK G_signals_of (hr.mono (by decide)) (takes_of rfl rfl rfl rfl) rfl (da_cons (dv_name 3 (pv 3)) (da_cons (dv_name 4 (pv 4)) da_nil)) (al_cons (al_cons al_nil)))) (dv_b (dv_attr (db_name 5 (pv 5)))) (nomark _))
    (dss_one (ds_raise rfl (takes_of rfl rfl rfl rfl) B.R_InvalidChain rfl dv_str))
    dss_nil)))
    (dss_cons (ds_fld 0 (pv 0) (dv_tuple rfl B.tuple (db_name 1 (pv 1))))
    (dss_one (ds_fld 0 (pv 0) (dv_tuple rfl B.tuple (db_name 2 (pv 2))))))))))
abbrev s_output_from : Stmt := top 28
abbrev p_output_from : List Str := ["program", "value", "candidates"]
abbrev N_output_from : List Str := ["program", "value", "candidates", "channel", "signal", "index"]
theorem sc_output_from : FnScope N_output_from p_output_from (defScope s_output_from) := ⟨rfl, rfl, rfl, by decide +kernel, rfl, by decide +kernel, by decide +kernel⟩
theorem ok_output_from {P : Program} {w : World} {K : KF} {mg : Str → Option Value} {base : Heap} (B : Bt K mg) (G_demand : Keeps P w K mg base "demand" 1 p_demand 2 m_demand) (G_is_row_of : Keeps P w K mg base "is_row_of" 2 p_is_row_of 3 m_is_row_of) (G_signals_of : Keeps P w K mg base "signals_of" 1 p_signals_of 2 m_signals_of) (G_is_index : Keeps P w K mg base "is_index" 2 p_is_index 2 m_is_index) (h : Has K mg "output_from" s_output_from p_output_from) : Keeps P w K mg base "output_from" 3 p_output_from 3 m_output_from :=
  keeps_of h sc_output_from rfl fun f cdv A outer s H E hr =>
    (dss_cons (ds_expr (ps_expr (dv_callK G_demand (hr.mono (by decide)) (takes_of rfl rfl rfl rfl) rfl (da_cons (dv_callK G_is_row_of (hr.mono (by decide)) (takes_of rfl rfl rfl rfl) rfl (da_cons (dv_name 1 (pv 1)) (da_cons dv_int (da_cons dv_int da_nil))) (al_cons (al_cons (al_cons al_nil)))) (da_cons dv_str da_nil)) (al_cons (al_cons al_nil)))))
    (dss_cons (ds_asg (ps_asg (dv_name 1 (pv 1)) (dg_tup rfl (dgs_cons (dg_name (pg_name (i := 3) sc_output_from.nd rfl (Or.inl rfl))) (dgs_cons (dg_name (pg_name (i := 4) sc_output_from.nd rfl (Or.inl rfl))) (dgs_cons (dg_name (pg_name (i := 5) sc_output_from.nd rfl (Or.inl rfl))) dgs_nil))))))
    (dss_cons (ds_expr (ps_expr (dv_callK G_demand (hr.mono (by decide)) (takes_of rfl rfl rfl rfl) rfl (da_cons (dv_cmp op_in_seq cd_inS (db_name 4 (pv 4)) (dv_b (dv_callK G_signals_of (hr.mono (by decide)) (takes_of rfl rfl rfl rfl) rfl (da_cons (dv_name 0 (pv 0)) (da_cons (dv_name 3 (pv 3)) da_nil)) (al_cons (al_cons al_nil)))) rfl) (da_cons dv_str da_nil)) (al_cons (al_cons al_nil)))))
    (dss_cons (ds_expr (ps_expr (dv_callK G_demand (hr.mono (by decide)) (takes_of rfl rfl rfl rfl) rfl (da_cons (dv_callK G_is_index (hr.mono (by decide)) (takes_of rfl rfl rfl rfl) rfl (da_cons (dv_name 5 (pv 5)) (da_cons (dv_name 2 (pv 2)) da_nil)) (al_cons (al_cons al_nil))) (da_cons dv_str da_nil)) (al_cons (al_cons al_nil)))))
    (dss_one (ds_ret (dv_tup (da_cons (dv_name 3 (pv 3)) (da_cons (dv_name 4 (pv 4)) (da_cons (dv_name 5 (pv 5)) da_nil))))))))))
abbrev s_outputs_from : Stmt := top 29
abbrev p_outputs_from : List Str := ["program", "values", "candidates"]
abbrev N_outputs_from : List Str := ["program", "values", "candidates", "value"]
theorem sc_outputs_from : FnScope N_outputs_from p_outputs_from (defScope s_outputs_from) := ⟨rfl, rfl, rfl, by decide +kernel, rfl, by decide +kernel, by decide +kernel⟩
theorem ok_outputs_from {P : Program} {w : World} {K : KF} {mg : Str → Option Value} {base : Heap} (B : Bt K mg) (G_demand : Keeps P w K mg base "demand" 1 p_demand 2 m_demand) (G_is_row_of : Keeps P w K mg base "is_row_of" 2 p_is_row_of 3 m_is_row_of) (G_output_from : Keeps P w K mg base "output_from" 3 p_output_from 3 m_output_from) (h : Has K mg "outputs_from" s_outputs_from p_outputs_from) : Keeps P w K mg base "outputs_from" 4 p_outputs_from 3 m_outputs_from :=
  keeps_of h sc_outputs_from rfl fun f cdv A outer s H E hr =>
    (dss_cons (ds_expr (ps_expr (dv_callK G_demand (hr.mono (by decide)) (takes_of rfl rfl rfl rfl) rfl (da_cons (dv_callK G_is_row_of (hr.mono (by decide)) (takes_of rfl rfl rfl rfl) rfl (da_cons (dv_name 1 (pv 1)) (da_cons dv_int (da_cons (dv_globI B.MOST_OUTPUTS rfl) da_nil))) (al_cons (al_cons (al_cons al_nil)))) (da_cons dv_str da_nil)) (al_cons (al_cons al_nil)))))
    (dss_one (ds_ret (dv_tuple rfl B.tuple (df_b (df_lc (W1 := wish mg fun _ _ _ _ => False) (W2 := wish mg fun _ _ _ _ => False) (own := [("value", 3)]) rfl sc_outputs_from.nd (di_seq (dv_name 1 (pv 1))) (blkOk_by (own := [("value", 3)]) (N := N_outputs_from) (sc := defScope s_outputs_from) (by decide +kernel)) (fun _ _ _ _ _ => (dg_name (pg_name (i := 3) sc_outputs_from.nd rfl (Or.inl rfl)))) (fun _ _ _ _ _ => dts_nil) (fun _ _ _ _ _ => (dv_callK G_output_from (hr.mono (by decide)) takes0 rfl (da_cons (dv_name 0 (pv 0)) (da_cons (dv_name 3 (pv 3)) (da_cons (dv_name 2 (pv 2)) da_nil))) (al_cons (al_cons (al_cons al_nil))))) (by decide)))))))
abbrev s_rule_from : Stmt := top 30
abbrev p_rule_from : List Str := ["program", "rule"]
abbrev N_rule_from : List Str := ["program", "rule", "state", "name", "position", "target", "sources", "outputs", "kept", "candidates"]
theorem sc_rule_from : FnScope N_rule_from p_rule_from (defScope s_rule_from) := ⟨rfl, rfl, rfl, by decide +kernel, rfl, by decide +kernel, by decide +kernel⟩
theorem ok_rule_from {P : Program} {w : World} {K : KF} {mg : Str → Option Value} {base : Heap} (B : Bt K mg) (G_demand : Keeps P w K mg base "demand" 1 p_demand 2 m_demand) (G_is_row_of : Keeps P w K mg base "is_row_of" 2 p_is_row_of 3 m_is_row_of) (G_is_index : Keeps P w K mg base "is_index" 2 p_is_index 2 m_is_index) (G_positions_among : Keeps P w K mg base "positions_among" 1 p_positions_among 1 m_positions_among) (G_candidates_at : Keeps P w K mg base "candidates_at" 1 p_candidates_at 2 m_candidates_at) (G_sources_from : Keeps P w K mg base "sources_from" 3 p_sources_from 3 m_sources_from) (G_outputs_from : Keeps P w K mg base "outputs_from" 4 p_outputs_from 3 m_outputs_from) (h : Has K mg "rule_from" s_rule_from p_rule_from) : Keeps P w K mg base "rule_from" 5 p_rule_from 2 m_rule_from :=
  keeps_of h sc_rule_from rfl fun f cdv A outer s H E hr =>
    (dss_cons (ds_expr (ps_expr (dv_callK G_demand (hr.mono (by decide)) (takes_of rfl rfl rfl rfl) rfl (da_cons (dv_callK G_is_row_of (hr.mono (by decide)) (takes_of rfl rfl rfl rfl) rfl (da_cons (dv_name 1 (pv 1)) (da_cons dv_int (da_cons dv_int da_nil))) (al_cons (al_cons (al_cons al_nil)))) (da_cons dv_str da_nil)) (al_cons (al_cons al_nil)))))
    (dss_cons (ds_asg (ps_asg (dv_name 1 (pv 1)) (dg_tup rfl (dgs_cons (dg_name (pg_name (i := 2) sc_rule_from.nd rfl (Or.inl rfl))) (dgs_cons (dg_name (pg_name (i := 3) sc_rule_from.nd rfl (Or.inl rfl))) (dgs_cons (dg_name (pg_name (i := 4) sc_rule_from.nd rfl (Or.inl rfl))) (dgs_cons (dg_name (pg_name (i := 5) sc_rule_from.nd rfl (Or.inl rfl))) (dgs_cons (dg_name (pg_name (i := 6) sc_rule_from.nd rfl (Or.inl rfl))) (dgs_cons (dg_name (pg_name (i := 7) sc_rule_from.nd rfl (Or.inl rfl))) dgs_nil)))))))))
    (dss_cons (ds_expr (ps_expr (dv_callK G_demand (hr.mono (by decide)) (takes_of rfl rfl rfl rfl) rfl (da_cons (dv_callK G_is_index (hr.mono (by decide)) (takes_of rfl rfl rfl rfl) rfl (da_cons (dv_name 2 (pv 2)) (da_cons (dv_len rfl B.len (dv_b (dv_attr (db_name 0 (pv 0))))) da_nil)) (al_cons (al_cons al_nil))) (da_cons dv_str da_nil)) (al_cons (al_cons al_nil)))))
    (dss_cons (ds_expr (ps_expr (dv_callK G_demand (hr.mono (by decide)) (takes_of rfl rfl rfl rfl) rfl (da_cons (dv_cmp op_in_seq cd_inS (db_name 3 (pv 3)) (dv_b (dv_attr (db_name 0 (pv 0)))) rfl) (da_cons dv_str da_nil)) (al_cons (al_cons al_nil)))))
    (dss_cons (ds_set (ps_set (i := 8) sc_rule_from.nd rfl (Or.inl rfl) (dv_ix (dv_b (dv_attr (db_name 0 (pv 0)))) (db_name 2 (pv 2)))))
    (dss_cons (ds_expr (ps_expr (dv_callK G_demand (hr.mono (by decide)) (takes_of rfl rfl rfl rfl) rfl (da_cons (dv_callK G_is_index (hr.mono (by decide)) (takes_of rfl rfl rfl rfl) rfl (da_cons (dv_name 4 (pv 4)) (da_cons (dv_callK G_positions_among (hr.mono (by decide)) (takes_of rfl rfl rfl rfl) rfl (da_cons (dv_name 8 (pv 8)) da_nil) (al_cons al_nil)) da_nil)) (al_cons (al_cons al_nil))) (da_cons dv_str da_nil)) (al_cons (al_cons al_nil)))))
    (dss_cons (ds_expr (ps_expr (dv_callK G_demand (hr.mono (by decide)) (takes_of rfl rfl rfl rfl) rfl (da_cons (dv_callK G_is_index (hr.mono (by decide)) (takes_of rfl rfl rfl rfl) rfl (da_cons (dv_name 5 (pv 5)) (da_cons (dv_len rfl B.len (dv_b (dv_attr (db_name 0 (pv 0))))) da_nil)) (al_cons (al_cons al_nil))) (da_cons dv_str da_nil)) (al_cons (al_cons al_nil)))))
    (dss_cons (ds_set (ps_set (i := 9) sc_rule_from.nd rfl (Or.inl rfl) (dv_callK G_candidates_at (hr.mono (by decide)) (takes_of rfl rfl rfl rfl) rfl (da_cons (dv_name 8 (pv 8)) (da_cons (dv_name 4 (pv 4)) da_nil)) (al_cons (al_cons al_nil)))))
    (dss_cons (ds_set (ps_set (i := 6) sc_rule_from.nd rfl (Or.inl rfl) (dv_callK G_sources_from (hr.mono (by decide)) (takes_of rfl rfl rfl rfl) rfl (da_cons (dv_name 6 (pv 6)) (da_cons (dv_ix (dv_b (dv_attr (db_name 0 (pv 0)))) (db_name 5 (pv 5))) (da_cons (dv_name 9 (pv 9)) da_nil))) (al_cons (al_cons (al_cons al_nil))))))
    (dss_one (ds_ret (dv_tup (da_cons (dv_name 2 (pv 2)) (da_cons (dv_name 3 (pv 3)) (da_cons (dv_name 4 (pv 4)) (da_cons (dv_name 5 (pv 5)) (da_cons (dv_name 6 (pv 6)) (da_cons (dv_callK G_outputs_from (hr.mono (by decide)) (takes_of rfl rfl rfl rfl) rfl (da_cons (dv_name 0 (pv 0)) (da_cons (dv_name 7 (pv 7)) (da_cons (dv_name 9 (pv 9)) da_nil))) (al_cons (al_cons (al_cons al_nil)))) da_nil))))))))))))))))))
abbrev s_table_from : Stmt := top 31
abbrev p_table_from : List Str := ["program", "rules"]
abbrev N_table_from : List Str := ["program", "rules", "table", "value", "rule"]
theorem sc_table_from : FnScope N_table_from p_table_from (defScope s_table_from) := ⟨rfl, rfl, rfl, by decide +kernel, rfl, by decide +kernel, by decide +kernel⟩
theorem ok_table_from {P : Program} {w : World} {K : KF} {mg : Str → Option Value} {base : Heap} (B : Bt K mg) (G_demand : Keeps P w K mg base "demand" 1 p_demand 2 m_demand) (G_is_row : Keeps P w K mg base "is_row" 1 p_is_row 1 m_is_row) (G_rule_from : Keeps P w K mg base "rule_from" 5 p_rule_from 2 m_rule_from) (h : Has K mg "table_from" s_table_from p_table_from) : Keeps P w K mg base "table_from" 6 p_table_from 2 m_table_from :=
  keeps_of h sc_table_from rfl fun f cdv A outer s H E hr =>
    (dss_cons (ds_expr (ps_expr (dv_callK G_demand (hr.mono (by decide)) (takes_of rfl rfl rfl rfl) rfl (da_cons (dv_callK G_is_row (hr.mono (by decide)) (takes_of rfl rfl rfl rfl) rfl (da_cons (dv_name 1 (pv 1)) da_nil) (al_cons al_nil)) (da_cons dv_str da_nil)) (al_cons (al_cons al_nil)))))
    (dss_cons (ds_setM (ps_set (i := 2) sc_table_from.nd rfl (Or.inl rfl) pe_dnewT))
    (dss_cons (ds_for (passes_of rfl) rfl (di_seq (dv_name 1 (pv 1))) (dg_name (pg_name (i := 3) sc_table_from.nd rfl (Or.inl rfl)))
    (dss_cons (ds_set (ps_set (i := 4) sc_table_from.nd rfl (Or.inl rfl) (dv_callK G_rule_from (hr.mono (by decide)) (takes_of rfl rfl rfl rfl) rfl (da_cons (dv_name 0 (pv 0)) (da_cons (dv_name 3 (pv 3)) da_nil)) (al_cons (al_cons al_nil)))))
    (dss_cons (ds_expr (ps_expr (dv_callK G_demand (hr.mono (by decide)) (takes_of rfl rfl rfl rfl) rfl (da_cons (dv_notInD (hu_of hr) (dv_sliceT (db_name 4 (pv 4)) dp_none (dp_some (dv_b dv_int))) (db_name 2 (pv 2))) (da_cons dv_str da_nil)) (al_cons (al_cons al_nil)))))
    (dss_one (ds_putD 2 (hu_of hr) (pv 2) (dv_sliceT (db_name 4 (pv 4)) dp_none (dp_some (dv_b dv_int))) (dv_name 4 (pv 4)))))))
    (dss_one (ds_frz 2 (ds_ret (dv_name 2 (pv 2))))))))
abbrev s_situations_of : Stmt := top 32
abbrev p_situations_of : List Str := ["program"]
abbrev N_situations_of : List Str := ["program", "state", "kept", "name", "position"]
theorem sc_situations_of : FnScope N_situations_of p_situations_of (defScope s_situations_of) := ⟨rfl, rfl, rfl, by decide +kernel, rfl, by decide +kernel, by decide +kernel⟩
theorem ok_situations_of {P : Program} {w : World} {K : KF} {mg : Str → Option Value} {base : Heap} (B : Bt K mg) (G_positions_among : Keeps P w K mg base "positions_among" 1 p_positions_among 1 m_positions_among) (h : Has K mg "situations_of" s_situations_of p_situations_of) : Keeps P w K mg base "situations_of" 2 p_situations_of 1 m_situations_of :=
  keeps_of h sc_situations_of rfl fun f cdv A outer s H E hr =>
    (dss_one (ds_retF (df_lcN (own := [("state", 1), ("kept", 2), ("name", 3), ("position", 4)]) sc_situations_of.nd (di_enum rfl B.enumerate (dv_attr (db_name 0 (pv 0)))) (blkOk_by (own := [("state", 1), ("kept", 2), ("name", 3), ("position", 4)]) (N := N_situations_of) (sc := defScope s_situations_of) (by decide +kernel)) (fun _ _ _ _ _ _ => (lvl_of (W := wish mg fun _ _ _ _ => False) rfl (fun _ _ h => h) (dg_tup rfl (dgs_cons (dg_name (pg_name (i := 1) sc_situations_of.nd rfl (Or.inl rfl))) (dgs_cons (dg_name (pg_name (i := 2) sc_situations_of.nd rfl (Or.inl rfl))) dgs_nil))) (onlyD_tup (onlyDs_cons (onlyD_name 1) (onlyDs_cons (onlyD_name 2) onlyDs_nil))) dts_nil (inner_next (W := wish mg fun _ _ _ _ => False) (fun _ _ h => h) rfl (fun _ => rfl) (di_seq (dv_attr (db_name 0 (pv 0)))) (lvl_of (W := wish mg fun _ _ _ _ => False) rfl (fun _ _ h => h) (dg_name (pg_name (i := 3) sc_situations_of.nd rfl (Or.inl rfl))) (onlyD_name 3) dts_nil (inner_next (W := wish mg fun _ _ _ _ => False) (fun _ _ h => h) rfl (fun _ => rfl) (di_range1 rfl B.range (dv_b (dv_callK G_positions_among (hr.mono (by decide)) takes0 rfl (da_cons (dv_name 2 (pv 2)) da_nil) (al_cons al_nil)))) (lvl_of (W := wish mg fun _ _ _ _ => False) rfl (fun _ _ h => h) (dg_name (pg_name (i := 4) sc_situations_of.nd rfl (Or.inl rfl))) (onlyD_name 4) dts_nil (inner_elt (W := wish mg fun _ _ _ _ => False) (fun _ _ h => h) (dv_tup (da_cons (dv_name 1 (pv 1)) (da_cons (dv_name 3 (pv 3)) (da_cons (dv_name 4 (pv 4)) da_nil))))) reads3_2)) reads3_1)) reads3_0)))))
abbrev s_Program : Stmt := inClass (top 36) 0
abbrev p_Program : List Str := ["self", "names", "channels", "states", "rules"]
abbrev N_Program : List Str := ["self", "names", "channels", "states", "rules", "situations", "situation"]
theorem sc_Program : FnScope N_Program p_Program (defScope s_Program) := ⟨rfl, rfl, rfl, by decide +kernel, rfl, by decide +kernel, by decide +kernel⟩
theorem ok_Program {P : Program} {w : World} {K : KF} {mg : Str → Option Value} {base : Heap} (B : Bt K mg) (G_words_from : Keeps P w K mg base "words_from" 3 p_words_from 2 m_words_from) (G_channels_from : Keeps P w K mg base "channels_from" 4 p_channels_from 1 m_channels_from) (G_states_from : Keeps P w K mg base "states_from" 3 p_states_from 1 m_states_from) (G_table_from : Keeps P w K mg base "table_from" 6 p_table_from 2 m_table_from) (G_situations_of : Keeps P w K mg base "situations_of" 2 p_situations_of 1 m_situations_of) (G_demand : Keeps P w K mg base "demand" 1 p_demand 2 m_demand) (h : HasI K mg "Program" all_Program s_Program p_Program "Program.__init__") : KeepsI P w K mg base "Program" all_Program 7 p_Program 4 m_Program :=
  keepsI_of h sc_Program rfl fun f cdv A outer s H E hr =>
    (dss_cons (ds_fld 0 (pv 0) (dv_callK G_words_from (hr.mono (by decide)) (takes_of rfl rfl rfl rfl) rfl (da_cons (dv_name 1 (pv 1)) (da_cons (dv_globI B.MOST_NAMES rfl) da_nil)) (al_cons (al_cons al_nil))))
    (dss_cons (ds_fld 0 (pv 0) (dv_callK G_channels_from (hr.mono (by decide)) (takes_of rfl rfl rfl rfl) rfl (da_cons (dv_name 2 (pv 2)) da_nil) (al_cons al_nil)))
    (dss_cons (ds_fld 0 (pv 0) (dv_callK G_states_from (hr.mono (by decide)) (takes_of rfl rfl rfl rfl) rfl (da_cons (dv_name 3 (pv 3)) da_nil) (al_cons al_nil)))
    (dss_cons (ds_fld 0 (pv 0) (dv_melt 0 (dv_callK G_table_from (hr.mono (by decide)) (takes_of rfl rfl rfl rfl) rfl (da_cons (dv_name 0 (pv 0)) (da_cons (dv_name 4 (pv 4)) da_nil)) (al_cons (al_cons al_nil)))))
    (dss_cons (ds_setFz (ps_set (i := 5) sc_Program.nd rfl (Or.inl rfl) (df_melt 0 (df_callK G_situations_of (hr.mono (by decide)) (takes_of rfl rfl rfl rfl) rfl (da_cons (dv_name 0 (pv 0)) da_nil) (al_cons al_nil)))))
    (dss_cons (ds_expr (ps_expr (dv_callK G_demand (hr.mono (by decide)) (takes_of rfl rfl rfl rfl) rfl (da_cons (dv_cmp (op_eqD hr.units) cd_eq (dv_b (dv_lenD rfl B.len (dv_b (dv_attr (db_name 0 (pv 0)))))) (dv_b (dv_len rfl B.len (db_name 5 (pv 5)))) (nomark _)) (da_cons dv_str da_nil)) (al_cons (al_cons al_nil)))))
    (dss_one (ds_fld 0 (pv 0) (dv_tuple rfl B.tuple (df_b (df_lc (W1 := wish mg fun _ _ _ _ => False) (W2 := wish mg fun _ _ _ _ => False) (own := [("situation", 6)]) rfl sc_Program.nd (di_seq (dv_name 5 (pv 5))) (blkOk_by (own := [("situation", 6)]) (N := N_Program) (sc := defScope s_Program) (by decide +kernel)) (fun _ _ _ _ _ => (dg_name (pg_name (i := 6) sc_Program.nd rfl (Or.inl rfl)))) (fun _ _ _ _ _ => dts_nil) (fun _ _ _ _ _ => (dv_get (hu_of hr) (dv_b (dv_attr (db_name 0 (pv 0)))) (dv_name 6 (pv 6)))) (by decide))))))))))))
abbrev s__law_chain : Stmt := top 84
abbrev p__law_chain : List Str := ["plan"]
abbrev N__law_chain : List Str := ["plan", "programs", "one"]
theorem sc__law_chain : FnScope N__law_chain p__law_chain (defScope s__law_chain) := ⟨rfl, rfl, rfl, by decide +kernel, rfl, by decide +kernel, by decide +kernel⟩
theorem ok__law_chain {P : Program} {w : World} {K : KF} {mg : Str → Option Value} {base : Heap} (B : Bt K mg) (G_Program : KeepsI P w K mg base "Program" all_Program 7 p_Program 4 m_Program) (G_Chain : KeepsI P w K mg base "Chain" all_Chain 3 p_Chain 2 m_Chain) (h : Has K mg "_law_chain" s__law_chain p__law_chain) : Keeps P w K mg base "_law_chain" 9 p__law_chain 1 m__law_chain :=
  keeps_of h sc__law_chain rfl fun f cdv A outer s H E hr =>
    (dss_cons (ds_setFz (ps_lcG (W1 := wish mg fun _ _ _ _ => False) (W2 := wish mg fun _ _ _ _ => False) (own := [("one", 2)]) (i := 1) rfl sc__law_chain.nd rfl rfl (sw_true rfl rfl rfl (by decide +kernel)) (di_seq (dv_ix (db_name 0 (pv 0)) (dv_b dv_int))) (blkOk_by (own := [("one", 2)]) (N := N__law_chain) (sc := defScope s__law_chain) (by decide +kernel)) (fun _ _ _ _ _ => (dg_name (pg_name (i := 2) sc__law_chain.nd rfl (Or.inl rfl)))) (fun _ _ _ _ _ => dts_nil) (fun _ _ _ _ _ => (dv_make G_Program (hr.mono (by decide)) takes0 rfl (da_cons (df_v (df_list rfl B.list (dv_b (dv_ix (db_name 2 (pv 2)) (dv_b dv_int))))) (da_cons (df_v (df_list rfl B.list (dv_b (dv_ix (db_name 2 (pv 2)) (dv_b dv_int))))) (da_cons (df_v (df_list rfl B.list (dv_b (dv_ix (db_name 2 (pv 2)) (dv_b dv_int))))) (da_cons (df_v (df_rev (df_b (df_list rfl B.list (dv_b (dv_ix (db_name 2 (pv 2)) (dv_b dv_int))))))) da_nil)))) (al_cons (al_cons (al_cons (al_cons al_nil)))))) (by decide)))
    (dss_one (ds_ret (dv_make G_Chain (hr.mono (by decide)) (takes_of rfl rfl rfl rfl) rfl (da_cons (dv_name 1 (pv 1)) (da_cons (df_v (df_list rfl B.list (dv_b (dv_ix (db_name 0 (pv 0)) (dv_b dv_int))))) da_nil)) (al_cons (al_cons al_nil))))))
abbrev s_law : Stmt := top 96
abbrev p_law : List Str := ["script"]
abbrev N_law : List Str := ["script", "plan", "chain", "cell", "places", "messages", "some", "deed", "nested", "given", "actual", "lists", "part", "one", "place", "told"]
theorem sc_law : FnScope N_law p_law (defScope s_law) := ⟨rfl, rfl, rfl, by decide +kernel, rfl, by decide +kernel, by decide +kernel⟩
theorem ok_law {P : Program} {w : World} {K : KF} {mg : Str → Option Value} {base : Heap} (B : Bt K mg) (G__law_chain_plan : Keeps P w K mg base "_law_chain_plan" 4 p__law_chain_plan 1 m__law_chain_plan) (G__law_chain : Keeps P w K mg base "_law_chain" 9 p__law_chain 1 m__law_chain) (G__law_cell : Keeps P w K mg base "_law_cell" 1 p__law_cell 2 m__law_cell) (G__law_beginning : Keeps P w K mg base "_law_beginning" 2 p__law_beginning 2 m__law_beginning) (G__law_input : Keeps P w K mg base "_law_input" 2 p__law_input 3 m__law_input) (G_class_of : Keeps P w K mg base "class_of" 7 p_class_of 3 m_class_of) (G_deed_of : Keeps P w K mg base "deed_of" 12 p_deed_of 2 m_deed_of) (G_is_deed : Keeps P w K mg base "is_deed" 6 p_is_deed 3 m_is_deed) (G__law_deed : Keeps P w K mg base "_law_deed" 4 p__law_deed 3 m__law_deed) (G_served : Keeps P w K mg base "served" 8 p_served 4 m_served) (G_deed_from : Keeps P w K mg base "deed_from" 5 p_deed_from 3 m_deed_from) {f : Addr} {fd : FuncData} (F : Fun K "law" "law" s_law f fd) : FnOk P w K mg base (L2.CX P w) 13 f fd p_law (spD K mg 1 m_law) :=
  fn_ok F sc_law rfl fun cdv A outer s H E hr =>
    (dss_cons (ds_set (ps_set (i := 1) sc_law.nd rfl (Or.inl rfl) (df_v (df_callK G__law_chain_plan (hr.mono (by decide)) (takes_of rfl rfl rfl rfl) rfl (da_cons (dv_name 0 (pv 0)) da_nil) (al_cons al_nil)))))
    (dss_cons (ds_set (ps_set (i := 2) sc_law.nd rfl (Or.inl rfl) (dv_callK G__law_chain (hr.mono (by decide)) (takes_of rfl rfl rfl rfl) rfl (da_cons (dv_name 1 (pv 1)) da_nil) (al_cons al_nil))))
    (dss_cons (ds_for (passes_of rfl) rfl (di_seq (df_v (df_cat (df_b (df_lst (da_cons (dv_callK G__law_cell (hr.mono (by decide)) (takes_of rfl rfl rfl rfl) rfl (da_cons (dv_name 0 (pv 0)) (da_cons dv_int da_nil)) (al_cons (al_cons al_nil))) (da_cons (dv_callK G__law_cell (hr.mono (by decide)) (takes_of rfl rfl rfl rfl) rfl (da_cons (dv_name 0 (pv 0)) (da_cons dv_int da_nil)) (al_cons (al_cons al_nil))) da_nil)))) (dv_b (dv_sliceR (db_name 0 (pv 0)) (dp_some (dv_b dv_int)) (dp_some (dv_b dv_int))))))) (dg_name (pg_name (i := 3) sc_law.nd rfl (Or.inl rfl)))
    (dss_cons (ds_set (ps_set (i := 4) sc_law.nd rfl (Or.inl rfl) (dv_callK G__law_beginning (hr.mono (by decide)) (takes_of rfl rfl rfl rfl) rfl (da_cons (dv_name 1 (pv 1)) (da_cons (dv_name 3 (pv 3)) da_nil)) (al_cons (al_cons al_nil)))))
    (dss_cons (ds_set (ps_set (i := 5) sc_law.nd rfl (Or.inl rfl) (df_v (df_callK G__law_input (hr.mono (by decide)) (takes_of rfl rfl rfl rfl) rfl (da_cons (dv_name 1 (pv 1)) (da_cons (dv_div (db_name 3 (pv 3)) (dv_b dv_int)) (da_cons (dv_add (dv_b dv_int) (dv_b (dv_mod (dv_b (dv_div (db_name 3 (pv 3)) (dv_b dv_int))) (dv_b dv_int)))) da_nil))) (al_cons (al_cons (al_cons al_nil)))))))
    (dss_cons (ds_set (ps_set (i := 6) sc_law.nd rfl (Or.inl rfl) (dv_callK G_class_of (hr.mono (by decide)) (takes_of rfl rfl rfl rfl) rfl (da_cons (dv_name 2 (pv 2)) (da_cons (dv_name 4 (pv 4)) (da_cons (dv_name 5 (pv 5)) da_nil))) (al_cons (al_cons (al_cons al_nil))))))
    (dss_cons (ds_set (ps_set (i := 7) sc_law.nd rfl (Or.inl rfl) (df_v (df_callK G_deed_of (hr.mono (by decide)) (takes_of rfl rfl rfl rfl) rfl (da_cons (dv_name 2 (pv 2)) (da_cons (dv_name 6 (pv 6)) da_nil)) (al_cons (al_cons al_nil))))))
    (dss_cons (ds_if (PW.pt (dw_or (dt_cmp (op_neD hr.units) cd_ne (db_name 7 (pv 7)) (dv_b (dv_ix (df_b (df_callK G__law_deed (hr.mono (by decide)) (takes_of rfl rfl rfl rfl) rfl (da_cons (dv_name 1 (pv 1)) (da_cons (dv_ix (db_name 6 (pv 6)) (dv_b dv_int)) (da_cons (dv_ix (db_name 6 (pv 6)) (dv_b dv_int)) da_nil))) (al_cons (al_cons (al_cons al_nil))))) (dv_b dv_int))) (nomark _)) (dw_or1 (dt_cmp op_notBl cd_notB (dv_b (dv_callK G_is_deed (hr.mono (by decide)) (takes_of rfl rfl rfl rfl) rfl (da_cons (dv_name 2 (pv 2)) (da_cons (dv_name 6 (pv 6)) (da_cons (dv_name 7 (pv 7)) da_nil))) (al_cons (al_cons (al_cons al_nil))))) (dv_b dv_bl) rfl))))
    (dss_one (ds_ret dv_bl))
    dss_nil)
    (dss_cons (ds_appNew (df_callK G_deed_of (hr.mono (by decide)) (takes_of rfl rfl rfl rfl) rfl (da_cons (dv_name 2 (pv 2)) (da_cons (dv_name 6 (pv 6)) da_nil)) (al_cons (al_cons al_nil))) dv_str)
    (dss_cons (ds_if (dt_cmp (op_neD hr.units) cd_ne (df_b (df_callK G_deed_of (hr.mono (by decide)) (takes_of rfl rfl rfl rfl) rfl (da_cons (dv_name 2 (pv 2)) (da_cons (dv_name 6 (pv 6)) da_nil)) (al_cons (al_cons al_nil)))) (db_name 7 (pv 7)) (nomark _))
    (dss_one (ds_ret dv_bl))
    dss_nil)
    (dss_cons (ds_setFz (ps_lcG (W1 := wish mg fun _ _ _ _ => False) (W2 := wish mg fun _ _ _ _ => False) (own := [("part", 12)]) (i := 8) rfl sc_law.nd rfl rfl (sw_true rfl rfl rfl (by decide +kernel)) (di_seq (dv_name 7 (pv 7))) (blkOk_by (own := [("part", 12)]) (N := N_law) (sc := defScope s_law) (by decide +kernel)) (fun _ _ _ _ _ => (dg_name (pg_name (i := 12) sc_law.nd rfl (Or.inl rfl)))) (fun _ _ _ _ _ => dts_nil) (fun _ _ _ _ _ => (df_v (df_lc (W1 := wish mg fun _ _ _ _ => False) (W2 := wish mg fun _ _ _ _ => False) (own := [("one", 13)]) rfl sc_law.nd (di_seq (dv_name 12 (pv 12))) (BlkOk.re (blkOk_by (own := [("one", 13)]) (N := N_law) (sc := { kind := PySem.ScopeKind.function, names := [(PySem.Str.ofString ".0", PySem.NameKind.local), (PySem.Str.ofString "part", PySem.NameKind.local)], isGenerator := false, isCoroutine := false, more := [] : PySem.Scope }) (by decide +kernel))) (fun _ _ _ _ _ => (dg_name (pg_name (i := 13) sc_law.nd rfl (Or.inl rfl)))) (fun _ _ _ _ _ => dts_nil) (fun _ _ _ _ _ => (df_v (df_lst (da_cons (dv_ix (db_name 13 (pv 13)) (dv_b dv_int)) (da_cons (df_v (df_list rfl B.list (dv_b (dv_ix (db_name 13 (pv 13)) (dv_b dv_int))))) (da_cons (df_v (df_lc (W1 := wish mg fun _ _ _ _ => False) (W2 := wish mg fun _ _ _ _ => False) (own := [("told", 15)]) rfl sc_law.nd (di_seq (dv_ix (db_name 13 (pv 13)) (dv_b dv_int))) (BlkOk.re (blkOk_by (own := [("told", 15)]) (N := N_law) (sc := { kind := PySem.ScopeKind.function, names := [ (PySem.Str.ofString ".0", PySem.NameKind.local), (PySem.Str.ofString "one", PySem.NameKind.local), (PySem.Str.ofString "list", PySem.NameKind.globalImplicit)], isGenerator := false, isCoroutine := false, more := [] : PySem.Scope }) (by decide +kernel))) (fun _ _ _ _ _ => (dg_name (pg_name (i := 15) sc_law.nd rfl (Or.inl rfl)))) (fun _ _ _ _ _ => dts_nil) (fun _ _ _ _ _ => (df_v (df_list rfl B.list (db_name 15 (pv 15))))) (by decide))) da_nil)))))) (by decide)))) (by decide)))
    (dss_cons (ds_if (PW.pt (dw_or (dt_cmp (op_neD hr.units) cd_ne (df_b (df_callK G_served (hr.mono (by decide)) (takes_of rfl rfl rfl rfl) rfl (da_cons (dv_name 2 (pv 2)) (da_cons (dv_name 4 (pv 4)) (da_cons (dv_name 5 (pv 5)) (da_cons (dv_name 8 (pv 8)) da_nil)))) (al_cons (al_cons (al_cons (al_cons al_nil)))))) (dv_b (dv_ix (df_b (df_callK G__law_deed (hr.mono (by decide)) (takes_of rfl rfl rfl rfl) rfl (da_cons (dv_name 1 (pv 1)) (da_cons (dv_name 4 (pv 4)) (da_cons (dv_name 5 (pv 5)) da_nil))) (al_cons (al_cons (al_cons al_nil))))) (dv_b dv_int))) (nomark _)) (dw_or1 (dt_cmp op_notBl cd_notB (dv_b (dv_callK G_is_deed (hr.mono (by decide)) (takes_of rfl rfl rfl rfl) rfl (da_cons (dv_name 2 (pv 2)) (da_cons (dv_name 6 (pv 6)) (da_cons (dv_name 8 (pv 8)) da_nil))) (al_cons (al_cons (al_cons al_nil))))) (dv_b dv_bl) rfl))))
    (dss_one (ds_ret dv_bl))
    dss_nil)
    (dss_cons (ds_set (ps_set (i := 9) sc_law.nd rfl (Or.inl rfl) (df_v (df_list rfl B.list (db_name 7 (pv 7))))))
    (dss_cons (ds_set (ps_set (i := 10) sc_law.nd rfl (Or.inl rfl) (df_v (df_callK G_served (hr.mono (by decide)) (takes_of rfl rfl rfl rfl) rfl (da_cons (dv_name 2 (pv 2)) (da_cons (dv_name 4 (pv 4)) (da_cons (dv_name 5 (pv 5)) (da_cons (dv_name 9 (pv 9)) da_nil)))) (al_cons (al_cons (al_cons (al_cons al_nil))))))))
    (dss_cons (ds_if (PW.pt (dw_or (dt_not (dt_val (dv_b (dv_isi rfl B.isinstance (db_name 10 (pv 10)) (pe_bltn rfl B.list (by decide +kernel) rfl))))) (dw_or (dt_cmp (op_neD hr.units) cd_ne (db_name 10 (pv 10)) (df_b (df_callK G_deed_from (hr.mono (by decide)) (takes_of rfl rfl rfl rfl) rfl (da_cons (dv_name 2 (pv 2)) (da_cons (dv_name 4 (pv 4)) (da_cons (dv_name 5 (pv 5)) da_nil))) (al_cons (al_cons (al_cons al_nil))))) (nomark _)) (dw_or1 (dt_cmp (op_neD hr.units) cd_ne (db_name 9 (pv 9)) (db_name 7 (pv 7)) (nomark _))))))
    (dss_one (ds_ret dv_bl))
    dss_nil)
    (dss_cons (ds_if (dt_cmp (op_neD hr.units) cd_ne (db_name 10 (pv 10)) (dv_b (dv_ix (df_b (df_callK G__law_deed (hr.mono (by decide)) (takes_of rfl rfl rfl rfl) rfl (da_cons (dv_name 1 (pv 1)) (da_cons (dv_name 4 (pv 4)) (da_cons (dv_name 5 (pv 5)) da_nil))) (al_cons (al_cons (al_cons al_nil))))) (dv_b dv_int))) (nomark _))
    (dss_one (ds_ret dv_bl))
    dss_nil)
    (dss_cons (ds_set (ps_set (i := 11) sc_law.nd rfl (Or.inl rfl) (df_v (df_lst (da_cons (df_v (df_lc (W1 := wish mg fun _ _ _ _ => False) (W2 := wish mg fun _ _ _ _ => False) (own := [("place", 14)]) rfl sc_law.nd (di_seq (dv_name 4 (pv 4))) (blkOk_by (own := [("place", 14)]) (N := N_law) (sc := defScope s_law) (by decide +kernel)) (fun _ _ _ _ _ => (dg_name (pg_name (i := 14) sc_law.nd rfl (Or.inl rfl)))) (fun _ _ _ _ _ => dts_nil) (fun _ _ _ _ _ => (df_v (df_lst (da_cons (dv_ix (db_name 14 (pv 14)) (dv_b dv_int)) (da_cons (df_v (df_list rfl B.list (dv_b (dv_ix (db_name 14 (pv 14)) (dv_b dv_int))))) da_nil))))) (by decide))) (da_cons (df_v (df_lc (W1 := wish mg fun _ _ _ _ => False) (W2 := wish mg fun _ _ _ _ => False) (own := [("one", 13)]) rfl sc_law.nd (di_seq (dv_name 5 (pv 5))) (blkOk_by (own := [("one", 13)]) (N := N_law) (sc := defScope s_law) (by decide +kernel)) (fun _ _ _ _ _ => (dg_name (pg_name (i := 13) sc_law.nd rfl (Or.inl rfl)))) (fun _ _ _ _ _ => dts_nil) (fun _ _ _ _ _ => (df_v (df_list rfl B.list (db_name 13 (pv 13))))) (by decide))) da_nil))))))
    (dss_one (ds_if (PW.pt (dw_or (dt_cmp (op_neD hr.units) cd_ne (df_b (df_callK G_served (hr.mono (by decide)) (takes_of rfl rfl rfl rfl) rfl (da_cons (dv_name 2 (pv 2)) (da_cons (dv_ix (db_name 11 (pv 11)) (dv_b dv_int)) (da_cons (dv_ix (db_name 11 (pv 11)) (dv_b dv_int)) (da_cons (dv_tuple rfl B.tuple (db_name 7 (pv 7))) da_nil)))) (al_cons (al_cons (al_cons (al_cons al_nil)))))) (db_name 10 (pv 10)) (nomark _)) (dw_or1 (dt_cmp (op_neD hr.units) cd_ne (df_b (df_callK G_deed_of (hr.mono (by decide)) (takes_of rfl rfl rfl rfl) rfl (da_cons (dv_name 2 (pv 2)) (da_cons (df_v (df_lst (da_cons (df_v (df_list rfl B.list (dv_b (dv_ix (db_name 6 (pv 6)) (dv_b dv_int))))) (da_cons (df_v (df_list rfl B.list (dv_b (dv_ix (db_name 6 (pv 6)) (dv_b dv_int))))) da_nil)))) da_nil)) (al_cons (al_cons al_nil)))) (db_name 7 (pv 7)) (nomark _)))))
    (dss_one (ds_ret dv_bl))
    dss_nil)))))))))))))))))
    (dss_one (ds_ret dv_bl)))))
end K09
namespace K09E
open PySem PySem.Spec PyProof.Rows L2 DL K09
theorem bt {K : KF} {h : Heap} {mg : Str → Option Value} (X : K.In h) (G : h.Ns mainGlobals mg) (c : He.SaysD K09H.fa K09H.fn K) (cx : K09H.ex K = true) : Bt K mg where
  len := He.free_ok X G (c.fact 73 (f := .free "len") rfl)
  int := He.free_ok X G (c.fact 74 (f := .free "int") rfl)
  range := He.free_ok X G (c.fact 75 (f := .free "range") rfl)
  tuple := He.free_ok X G (c.fact 76 (f := .free "tuple") rfl)
  list := He.free_ok X G (c.fact 77 (f := .free "list") rfl)
  sorted := He.free_ok X G (c.fact 78 (f := .free "sorted") rfl)
  all := He.free_ok X G (c.fact 79 (f := .free "all") rfl)
  isinstance := He.free_ok X G (c.fact 80 (f := .free "isinstance") rfl)
  zip := He.free_ok X G (c.fact 81 (f := .free "zip") rfl)
  enumerate := He.free_ok X G (c.fact 82 (f := .free "enumerate") rfl)
  set := He.free_ok X G (c.fact 83 (f := .free "set") rfl)
  bool := He.free_ok X G (c.fact 84 (f := .free "bool") rfl)
  str := He.free_ok X G (c.fact 85 (f := .free "str") rfl)
  LETTERS := He.str_ok X G (c.fact 86 (f := .str "LETTERS" "abcdefghijklmnopqrstuvwxyz") rfl)
  MOST_LETTERS := He.int_ok X G (c.fact 87 (f := .int "MOST_LETTERS" 8) rfl)
  MOST_NAMES := He.int_ok X G (c.fact 88 (f := .int "MOST_NAMES" 4) rfl)
  MOST_CHANNELS := He.int_ok X G (c.fact 89 (f := .int "MOST_CHANNELS" 2) rfl)
  MOST_SIGNALS := He.int_ok X G (c.fact 90 (f := .int "MOST_SIGNALS" 4) rfl)
  MOST_STATES := He.int_ok X G (c.fact 91 (f := .int "MOST_STATES" 10) rfl)
  MOST_KEPT := He.int_ok X G (c.fact 92 (f := .int "MOST_KEPT" 4) rfl)
  MOST_OUTPUTS := He.int_ok X G (c.fact 93 (f := .int "MOST_OUTPUTS" 3) rfl)
  MOST_PROGRAMS := He.int_ok X G (c.fact 94 (f := .int "MOST_PROGRAMS" 3) rfl)
  MOST_MESSAGES := He.int_ok X G (c.fact 95 (f := .int "MOST_MESSAGES" 40) rfl)
  R_InvalidBeginning := ⟨_, He.glo_ok X G (c.fact 102 (f := .glo "InvalidBeginning") rfl), He.exc_ok (c.fact 103 (f := .exc "InvalidBeginning") rfl)⟩
  R_InvalidChain := ⟨_, He.glo_ok X G (c.fact 100 (f := .glo "InvalidChain") rfl), He.exc_ok (c.fact 101 (f := .exc "InvalidChain") rfl)⟩
  R_InvalidClass := ⟨_, He.glo_ok X G (c.fact 106 (f := .glo "InvalidClass") rfl), He.exc_ok (c.fact 107 (f := .exc "InvalidClass") rfl)⟩
  R_InvalidDeed := ⟨_, He.glo_ok X G (c.fact 108 (f := .glo "InvalidDeed") rfl), He.exc_ok (c.fact 109 (f := .exc "InvalidDeed") rfl)⟩
  R_InvalidInput := ⟨_, He.glo_ok X G (c.fact 104 (f := .glo "InvalidInput") rfl), He.exc_ok (c.fact 105 (f := .exc "InvalidInput") rfl)⟩
  R_InvalidProgram := ⟨_, He.glo_ok X G (c.fact 98 (f := .glo "InvalidProgram") rfl), He.exc_ok (c.fact 99 (f := .exc "InvalidProgram") rfl)⟩
  I_Program := ⟨_, He.glo_ok X G (c.fact 110 (f := .glo "Program") rfl), He.eqO_ok (c.fact 110 (f := .glo "Program") rfl), inst_ok (List.all_eq_true.mp (He.ba cx).1 "Program" (by simp))⟩
theorem has_is_row {K : KF} {h : Heap} {mg : Str → Option Value} (X : K.In h) (G : h.Ns mainGlobals mg) (c : He.SaysD K09H.fa K09H.fn K) : Has K mg "is_row" s_is_row p_is_row := by
  obtain ⟨fd, F⟩ := c.def_ 0 (d := K09H.d_is_row) rfl
  exact has_def (He.glo_ok X G (c.fact 0 (f := .glo "is_row") rfl)) F fun _ _ _ _ _ _ us hl => match us, hl with | [_], _ => rfl
theorem has_is_row_of {K : KF} {h : Heap} {mg : Str → Option Value} (X : K.In h) (G : h.Ns mainGlobals mg) (c : He.SaysD K09H.fa K09H.fn K) : Has K mg "is_row_of" s_is_row_of p_is_row_of := by
  obtain ⟨fd, F⟩ := c.def_ 1 (d := K09H.d_is_row_of) rfl
  exact has_def (He.glo_ok X G (c.fact 1 (f := .glo "is_row_of") rfl)) F fun _ _ _ _ _ _ us hl => match us, hl with | [_, _, _], _ => rfl
theorem has_is_integer {K : KF} {h : Heap} {mg : Str → Option Value} (X : K.In h) (G : h.Ns mainGlobals mg) (c : He.SaysD K09H.fa K09H.fn K) : Has K mg "is_integer" s_is_integer p_is_integer := by
  obtain ⟨fd, F⟩ := c.def_ 2 (d := K09H.d_is_integer) rfl
  exact has_def (He.glo_ok X G (c.fact 2 (f := .glo "is_integer") rfl)) F fun _ _ _ _ _ _ us hl => match us, hl with | [_], _ => rfl
theorem has_is_index {K : KF} {h : Heap} {mg : Str → Option Value} (X : K.In h) (G : h.Ns mainGlobals mg) (c : He.SaysD K09H.fa K09H.fn K) : Has K mg "is_index" s_is_index p_is_index := by
  obtain ⟨fd, F⟩ := c.def_ 3 (d := K09H.d_is_index) rfl
  exact has_def (He.glo_ok X G (c.fact 3 (f := .glo "is_index") rfl)) F fun _ _ _ _ _ _ us hl => match us, hl with | [_, _], _ => rfl
theorem has_is_word {K : KF} {h : Heap} {mg : Str → Option Value} (X : K.In h) (G : h.Ns mainGlobals mg) (c : He.SaysD K09H.fa K09H.fn K) : Has K mg "is_word" s_is_word p_is_word := by
  obtain ⟨fd, F⟩ := c.def_ 4 (d := K09H.d_is_word) rfl
  exact has_def (He.glo_ok X G (c.fact 4 (f := .glo "is_word") rfl)) F fun _ _ _ _ _ _ us hl => match us, hl with | [_], _ => rfl
theorem has_is_ascending {K : KF} {h : Heap} {mg : Str → Option Value} (X : K.In h) (G : h.Ns mainGlobals mg) (c : He.SaysD K09H.fa K09H.fn K) : Has K mg "is_ascending" s_is_ascending p_is_ascending := by
  obtain ⟨fd, F⟩ := c.def_ 5 (d := K09H.d_is_ascending) rfl
  exact has_def (He.glo_ok X G (c.fact 5 (f := .glo "is_ascending") rfl)) F fun _ _ _ _ _ _ us hl => match us, hl with | [_], _ => rfl
theorem has_demand {K : KF} {h : Heap} {mg : Str → Option Value} (X : K.In h) (G : h.Ns mainGlobals mg) (c : He.SaysD K09H.fa K09H.fn K) : Has K mg "demand" s_demand p_demand := by
  obtain ⟨fd, F⟩ := c.def_ 6 (d := K09H.d_demand) rfl
  exact has_def (He.glo_ok X G (c.fact 6 (f := .glo "demand") rfl)) F fun _ _ _ _ _ _ us hl => match us, hl with | [_, _], _ => rfl
theorem has_words_from {K : KF} {h : Heap} {mg : Str → Option Value} (X : K.In h) (G : h.Ns mainGlobals mg) (c : He.SaysD K09H.fa K09H.fn K) : Has K mg "words_from" s_words_from p_words_from := by
  obtain ⟨fd, F⟩ := c.def_ 7 (d := K09H.d_words_from) rfl
  exact has_def (He.glo_ok X G (c.fact 7 (f := .glo "words_from") rfl)) F fun _ _ _ _ _ _ us hl => match us, hl with | [_, _], _ => rfl
theorem has_channels_from {K : KF} {h : Heap} {mg : Str → Option Value} (X : K.In h) (G : h.Ns mainGlobals mg) (c : He.SaysD K09H.fa K09H.fn K) : Has K mg "channels_from" s_channels_from p_channels_from := by
  obtain ⟨fd, F⟩ := c.def_ 8 (d := K09H.d_channels_from) rfl
  exact has_def (He.glo_ok X G (c.fact 8 (f := .glo "channels_from") rfl)) F fun _ _ _ _ _ _ us hl => match us, hl with | [_], _ => rfl
theorem has_states_from {K : KF} {h : Heap} {mg : Str → Option Value} (X : K.In h) (G : h.Ns mainGlobals mg) (c : He.SaysD K09H.fa K09H.fn K) : Has K mg "states_from" s_states_from p_states_from := by
  obtain ⟨fd, F⟩ := c.def_ 9 (d := K09H.d_states_from) rfl
  exact has_def (He.glo_ok X G (c.fact 9 (f := .glo "states_from") rfl)) F fun _ _ _ _ _ _ us hl => match us, hl with | [_], _ => rfl
theorem has_sources_from {K : KF} {h : Heap} {mg : Str → Option Value} (X : K.In h) (G : h.Ns mainGlobals mg) (c : He.SaysD K09H.fa K09H.fn K) : Has K mg "sources_from" s_sources_from p_sources_from := by
  obtain ⟨fd, F⟩ := c.def_ 10 (d := K09H.d_sources_from) rfl
  exact has_def (He.glo_ok X G (c.fact 10 (f := .glo "sources_from") rfl)) F fun _ _ _ _ _ _ us hl => match us, hl with | [_, _, _], _ => rfl
theorem has_output_from {K : KF} {h : Heap} {mg : Str → Option Value} (X : K.In h) (G : h.Ns mainGlobals mg) (c : He.SaysD K09H.fa K09H.fn K) : Has K mg "output_from" s_output_from p_output_from := by
  obtain ⟨fd, F⟩ := c.def_ 11 (d := K09H.d_output_from) rfl
  exact has_def (He.glo_ok X G (c.fact 11 (f := .glo "output_from") rfl)) F fun _ _ _ _ _ _ us hl => match us, hl with | [_, _, _], _ => rfl
theorem has_outputs_from {K : KF} {h : Heap} {mg : Str → Option Value} (X : K.In h) (G : h.Ns mainGlobals mg) (c : He.SaysD K09H.fa K09H.fn K) : Has K mg "outputs_from" s_outputs_from p_outputs_from := by
  obtain ⟨fd, F⟩ := c.def_ 12 (d := K09H.d_outputs_from) rfl
  exact has_def (He.glo_ok X G (c.fact 12 (f := .glo "outputs_from") rfl)) F fun _ _ _ _ _ _ us hl => match us, hl with | [_, _, _], _ => rfl
theorem has_rule_from {K : KF} {h : Heap} {mg : Str → Option Value} (X : K.In h) (G : h.Ns mainGlobals mg) (c : He.SaysD K09H.fa K09H.fn K) : Has K mg "rule_from" s_rule_from p_rule_from := by
  obtain ⟨fd, F⟩ := c.def_ 13 (d := K09H.d_rule_from) rfl
  exact has_def (He.glo_ok X G (c.fact 13 (f := .glo "rule_from") rfl)) F fun _ _ _ _ _ _ us hl => match us, hl with | [_, _], _ => rfl
theorem has_table_from {K : KF} {h : Heap} {mg : Str → Option Value} (X : K.In h) (G : h.Ns mainGlobals mg) (c : He.SaysD K09H.fa K09H.fn K) : Has K mg "table_from" s_table_from p_table_from := by
  obtain ⟨fd, F⟩ := c.def_ 14 (d := K09H.d_table_from) rfl
  exact has_def (He.glo_ok X G (c.fact 14 (f := .glo "table_from") rfl)) F fun _ _ _ _ _ _ us hl => match us, hl with | [_, _], _ => rfl
theorem has_situations_of {K : KF} {h : Heap} {mg : Str → Option Value} (X : K.In h) (G : h.Ns mainGlobals mg) (c : He.SaysD K09H.fa K09H.fn K) : Has K mg "situations_of" s_situations_of p_situations_of := by
  obtain ⟨fd, F⟩ := c.def_ 15 (d := K09H.d_situations_of) rfl
  exact has_def (He.glo_ok X G (c.fact 15 (f := .glo "situations_of") rfl)) F fun _ _ _ _ _ _ us hl => match us, hl with | [_], _ => rfl
theorem has_positions_among {K : KF} {h : Heap} {mg : Str → Option Value} (X : K.In h) (G : h.Ns mainGlobals mg) (c : He.SaysD K09H.fa K09H.fn K) : Has K mg "positions_among" s_positions_among p_positions_among := by
  obtain ⟨fd, F⟩ := c.def_ 16 (d := K09H.d_positions_among) rfl
  exact has_def (He.glo_ok X G (c.fact 16 (f := .glo "positions_among") rfl)) F fun _ _ _ _ _ _ us hl => match us, hl with | [_], _ => rfl
theorem has_candidates_at {K : KF} {h : Heap} {mg : Str → Option Value} (X : K.In h) (G : h.Ns mainGlobals mg) (c : He.SaysD K09H.fa K09H.fn K) : Has K mg "candidates_at" s_candidates_at p_candidates_at := by
  obtain ⟨fd, F⟩ := c.def_ 17 (d := K09H.d_candidates_at) rfl
  exact has_def (He.glo_ok X G (c.fact 17 (f := .glo "candidates_at") rfl)) F fun _ _ _ _ _ _ us hl => match us, hl with | [_, _], _ => rfl
theorem has_signals_of {K : KF} {h : Heap} {mg : Str → Option Value} (X : K.In h) (G : h.Ns mainGlobals mg) (c : He.SaysD K09H.fa K09H.fn K) : Has K mg "signals_of" s_signals_of p_signals_of := by
  obtain ⟨fd, F⟩ := c.def_ 18 (d := K09H.d_signals_of) rfl
  exact has_def (He.glo_ok X G (c.fact 18 (f := .glo "signals_of") rfl)) F fun _ _ _ _ _ _ us hl => match us, hl with | [_, _], _ => rfl
theorem has_position_of {K : KF} {h : Heap} {mg : Str → Option Value} (X : K.In h) (G : h.Ns mainGlobals mg) (c : He.SaysD K09H.fa K09H.fn K) : Has K mg "position_of" s_position_of p_position_of := by
  obtain ⟨fd, F⟩ := c.def_ 19 (d := K09H.d_position_of) rfl
  exact has_def (He.glo_ok X G (c.fact 19 (f := .glo "position_of") rfl)) F fun _ _ _ _ _ _ us hl => match us, hl with | [_, _], _ => rfl
theorem has_candidates_of {K : KF} {h : Heap} {mg : Str → Option Value} (X : K.In h) (G : h.Ns mainGlobals mg) (c : He.SaysD K09H.fa K09H.fn K) : Has K mg "candidates_of" s_candidates_of p_candidates_of := by
  obtain ⟨fd, F⟩ := c.def_ 20 (d := K09H.d_candidates_of) rfl
  exact has_def (He.glo_ok X G (c.fact 20 (f := .glo "candidates_of") rfl)) F fun _ _ _ _ _ _ us hl => match us, hl with | [_, _, _], _ => rfl
theorem has_step {K : KF} {h : Heap} {mg : Str → Option Value} (X : K.In h) (G : h.Ns mainGlobals mg) (c : He.SaysD K09H.fa K09H.fn K) : Has K mg "step" s_step p_step := by
  obtain ⟨fd, F⟩ := c.def_ 21 (d := K09H.d_step) rfl
  exact has_def (He.glo_ok X G (c.fact 21 (f := .glo "step") rfl)) F fun _ _ _ _ _ _ us hl => match us, hl with | [_, _, _], _ => rfl
theorem has_names_of {K : KF} {h : Heap} {mg : Str → Option Value} (X : K.In h) (G : h.Ns mainGlobals mg) (c : He.SaysD K09H.fa K09H.fn K) : Has K mg "names_of" s_names_of p_names_of := by
  obtain ⟨fd, F⟩ := c.def_ 22 (d := K09H.d_names_of) rfl
  exact has_def (He.glo_ok X G (c.fact 22 (f := .glo "names_of") rfl)) F fun _ _ _ _ _ _ us hl => match us, hl with | [_], _ => rfl
theorem has_is_configuration {K : KF} {h : Heap} {mg : Str → Option Value} (X : K.In h) (G : h.Ns mainGlobals mg) (c : He.SaysD K09H.fa K09H.fn K) : Has K mg "is_configuration" s_is_configuration p_is_configuration := by
  obtain ⟨fd, F⟩ := c.def_ 23 (d := K09H.d_is_configuration) rfl
  exact has_def (He.glo_ok X G (c.fact 23 (f := .glo "is_configuration") rfl)) F fun _ _ _ _ _ _ us hl => match us, hl with | [_, _], _ => rfl
theorem has_is_beginning {K : KF} {h : Heap} {mg : Str → Option Value} (X : K.In h) (G : h.Ns mainGlobals mg) (c : He.SaysD K09H.fa K09H.fn K) : Has K mg "is_beginning" s_is_beginning p_is_beginning := by
  obtain ⟨fd, F⟩ := c.def_ 24 (d := K09H.d_is_beginning) rfl
  exact has_def (He.glo_ok X G (c.fact 24 (f := .glo "is_beginning") rfl)) F fun _ _ _ _ _ _ us hl => match us, hl with | [_, _], _ => rfl
theorem has_is_message {K : KF} {h : Heap} {mg : Str → Option Value} (X : K.In h) (G : h.Ns mainGlobals mg) (c : He.SaysD K09H.fa K09H.fn K) : Has K mg "is_message" s_is_message p_is_message := by
  obtain ⟨fd, F⟩ := c.def_ 25 (d := K09H.d_is_message) rfl
  exact has_def (He.glo_ok X G (c.fact 25 (f := .glo "is_message") rfl)) F fun _ _ _ _ _ _ us hl => match us, hl with | [_, _], _ => rfl
theorem has_is_input {K : KF} {h : Heap} {mg : Str → Option Value} (X : K.In h) (G : h.Ns mainGlobals mg) (c : He.SaysD K09H.fa K09H.fn K) : Has K mg "is_input" s_is_input p_is_input := by
  obtain ⟨fd, F⟩ := c.def_ 26 (d := K09H.d_is_input) rfl
  exact has_def (He.glo_ok X G (c.fact 26 (f := .glo "is_input") rfl)) F fun _ _ _ _ _ _ us hl => match us, hl with | [_, _], _ => rfl
theorem has_heard_by {K : KF} {h : Heap} {mg : Str → Option Value} (X : K.In h) (G : h.Ns mainGlobals mg) (c : He.SaysD K09H.fa K09H.fn K) : Has K mg "heard_by" s_heard_by p_heard_by := by
  obtain ⟨fd, F⟩ := c.def_ 27 (d := K09H.d_heard_by) rfl
  exact has_def (He.glo_ok X G (c.fact 27 (f := .glo "heard_by") rfl)) F fun _ _ _ _ _ _ us hl => match us, hl with | [_, _, _], _ => rfl
theorem has_messages_on {K : KF} {h : Heap} {mg : Str → Option Value} (X : K.In h) (G : h.Ns mainGlobals mg) (c : He.SaysD K09H.fa K09H.fn K) : Has K mg "messages_on" s_messages_on p_messages_on := by
  obtain ⟨fd, F⟩ := c.def_ 28 (d := K09H.d_messages_on) rfl
  exact has_def (He.glo_ok X G (c.fact 28 (f := .glo "messages_on") rfl)) F fun _ _ _ _ _ _ us hl => match us, hl with | [_, _], _ => rfl
theorem has_chain_step {K : KF} {h : Heap} {mg : Str → Option Value} (X : K.In h) (G : h.Ns mainGlobals mg) (c : He.SaysD K09H.fa K09H.fn K) : Has K mg "chain_step" s_chain_step p_chain_step := by
  obtain ⟨fd, F⟩ := c.def_ 29 (d := K09H.d_chain_step) rfl
  exact has_def (He.glo_ok X G (c.fact 29 (f := .glo "chain_step") rfl)) F fun _ _ _ _ _ _ us hl => match us, hl with | [_, _, _], _ => rfl
theorem has_deed_from {K : KF} {h : Heap} {mg : Str → Option Value} (X : K.In h) (G : h.Ns mainGlobals mg) (c : He.SaysD K09H.fa K09H.fn K) : Has K mg "deed_from" s_deed_from p_deed_from := by
  obtain ⟨fd, F⟩ := c.def_ 30 (d := K09H.d_deed_from) rfl
  exact has_def (He.glo_ok X G (c.fact 30 (f := .glo "deed_from") rfl)) F fun _ _ _ _ _ _ us hl => match us, hl with | [_, _, _], _ => rfl
theorem has_tuples_of {K : KF} {h : Heap} {mg : Str → Option Value} (X : K.In h) (G : h.Ns mainGlobals mg) (c : He.SaysD K09H.fa K09H.fn K) : Has K mg "tuples_of" s_tuples_of p_tuples_of := by
  obtain ⟨fd, F⟩ := c.def_ 31 (d := K09H.d_tuples_of) rfl
  exact has_def (He.glo_ok X G (c.fact 31 (f := .glo "tuples_of") rfl)) F fun _ _ _ _ _ _ us hl => match us, hl with | [_], _ => rfl
theorem has_integers_in {K : KF} {h : Heap} {mg : Str → Option Value} (X : K.In h) (G : h.Ns mainGlobals mg) (c : He.SaysD K09H.fa K09H.fn K) : Has K mg "integers_in" s_integers_in p_integers_in := by
  obtain ⟨fd, F⟩ := c.def_ 32 (d := K09H.d_integers_in) rfl
  exact has_def (He.glo_ok X G (c.fact 32 (f := .glo "integers_in") rfl)) F fun _ _ _ _ _ _ us hl => match us, hl with | [_, _], _ => rfl
theorem has_ranks_of {K : KF} {h : Heap} {mg : Str → Option Value} (X : K.In h) (G : h.Ns mainGlobals mg) (c : He.SaysD K09H.fa K09H.fn K) : Has K mg "ranks_of" s_ranks_of p_ranks_of := by
  obtain ⟨fd, F⟩ := c.def_ 33 (d := K09H.d_ranks_of) rfl
  exact has_def (He.glo_ok X G (c.fact 33 (f := .glo "ranks_of") rfl)) F fun _ _ _ _ _ _ us hl => match us, hl with | [_], _ => rfl
theorem has_beginning_with {K : KF} {h : Heap} {mg : Str → Option Value} (X : K.In h) (G : h.Ns mainGlobals mg) (c : He.SaysD K09H.fa K09H.fn K) : Has K mg "beginning_with" s_beginning_with p_beginning_with := by
  obtain ⟨fd, F⟩ := c.def_ 34 (d := K09H.d_beginning_with) rfl
  exact has_def (He.glo_ok X G (c.fact 34 (f := .glo "beginning_with") rfl)) F fun _ _ _ _ _ _ us hl => match us, hl with | [_, _], _ => rfl
theorem has_messages_with {K : KF} {h : Heap} {mg : Str → Option Value} (X : K.In h) (G : h.Ns mainGlobals mg) (c : He.SaysD K09H.fa K09H.fn K) : Has K mg "messages_with" s_messages_with p_messages_with := by
  obtain ⟨fd, F⟩ := c.def_ 35 (d := K09H.d_messages_with) rfl
  exact has_def (He.glo_ok X G (c.fact 35 (f := .glo "messages_with") rfl)) F fun _ _ _ _ _ _ us hl => match us, hl with | [_, _], _ => rfl
theorem has_part_with {K : KF} {h : Heap} {mg : Str → Option Value} (X : K.In h) (G : h.Ns mainGlobals mg) (c : He.SaysD K09H.fa K09H.fn K) : Has K mg "part_with" s_part_with p_part_with := by
  obtain ⟨fd, F⟩ := c.def_ 36 (d := K09H.d_part_with) rfl
  exact has_def (He.glo_ok X G (c.fact 36 (f := .glo "part_with") rfl)) F fun _ _ _ _ _ _ us hl => match us, hl with | [_, _], _ => rfl
theorem has_steps_with {K : KF} {h : Heap} {mg : Str → Option Value} (X : K.In h) (G : h.Ns mainGlobals mg) (c : He.SaysD K09H.fa K09H.fn K) : Has K mg "steps_with" s_steps_with p_steps_with := by
  obtain ⟨fd, F⟩ := c.def_ 37 (d := K09H.d_steps_with) rfl
  exact has_def (He.glo_ok X G (c.fact 37 (f := .glo "steps_with") rfl)) F fun _ _ _ _ _ _ us hl => match us, hl with | [_, _], _ => rfl
theorem has_ranked {K : KF} {h : Heap} {mg : Str → Option Value} (X : K.In h) (G : h.Ns mainGlobals mg) (c : He.SaysD K09H.fa K09H.fn K) : Has K mg "ranked" s_ranked p_ranked := by
  obtain ⟨fd, F⟩ := c.def_ 38 (d := K09H.d_ranked) rfl
  exact has_def (He.glo_ok X G (c.fact 38 (f := .glo "ranked") rfl)) F fun _ _ _ _ _ _ us hl => match us, hl with | [_, _], _ => rfl
theorem has_is_class_input {K : KF} {h : Heap} {mg : Str → Option Value} (X : K.In h) (G : h.Ns mainGlobals mg) (c : He.SaysD K09H.fa K09H.fn K) : Has K mg "is_class_input" s_is_class_input p_is_class_input := by
  obtain ⟨fd, F⟩ := c.def_ 39 (d := K09H.d_is_class_input) rfl
  exact has_def (He.glo_ok X G (c.fact 39 (f := .glo "is_class_input") rfl)) F fun _ _ _ _ _ _ us hl => match us, hl with | [_, _], _ => rfl
theorem has_demand_class_input {K : KF} {h : Heap} {mg : Str → Option Value} (X : K.In h) (G : h.Ns mainGlobals mg) (c : He.SaysD K09H.fa K09H.fn K) : Has K mg "demand_class_input" s_demand_class_input p_demand_class_input := by
  obtain ⟨fd, F⟩ := c.def_ 40 (d := K09H.d_demand_class_input) rfl
  exact has_def (He.glo_ok X G (c.fact 40 (f := .glo "demand_class_input") rfl)) F fun _ _ _ _ _ _ us hl => match us, hl with | [_, _], _ => rfl
theorem has_class_of {K : KF} {h : Heap} {mg : Str → Option Value} (X : K.In h) (G : h.Ns mainGlobals mg) (c : He.SaysD K09H.fa K09H.fn K) : Has K mg "class_of" s_class_of p_class_of := by
  obtain ⟨fd, F⟩ := c.def_ 41 (d := K09H.d_class_of) rfl
  exact has_def (He.glo_ok X G (c.fact 41 (f := .glo "class_of") rfl)) F fun _ _ _ _ _ _ us hl => match us, hl with | [_, _, _], _ => rfl
theorem has_is_class {K : KF} {h : Heap} {mg : Str → Option Value} (X : K.In h) (G : h.Ns mainGlobals mg) (c : He.SaysD K09H.fa K09H.fn K) : Has K mg "is_class" s_is_class p_is_class := by
  obtain ⟨fd, F⟩ := c.def_ 42 (d := K09H.d_is_class) rfl
  exact has_def (He.glo_ok X G (c.fact 42 (f := .glo "is_class") rfl)) F fun _ _ _ _ _ _ us hl => match us, hl with | [_, _], _ => rfl
theorem has_class_from {K : KF} {h : Heap} {mg : Str → Option Value} (X : K.In h) (G : h.Ns mainGlobals mg) (c : He.SaysD K09H.fa K09H.fn K) : Has K mg "class_from" s_class_from p_class_from := by
  obtain ⟨fd, F⟩ := c.def_ 43 (d := K09H.d_class_from) rfl
  exact has_def (He.glo_ok X G (c.fact 43 (f := .glo "class_from") rfl)) F fun _ _ _ _ _ _ us hl => match us, hl with | [_, _], _ => rfl
theorem has_is_possible_output {K : KF} {h : Heap} {mg : Str → Option Value} (X : K.In h) (G : h.Ns mainGlobals mg) (c : He.SaysD K09H.fa K09H.fn K) : Has K mg "is_possible_output" s_is_possible_output p_is_possible_output := by
  obtain ⟨fd, F⟩ := c.def_ 44 (d := K09H.d_is_possible_output) rfl
  exact has_def (He.glo_ok X G (c.fact 44 (f := .glo "is_possible_output") rfl)) F fun _ _ _ _ _ _ us hl => match us, hl with | [_, _, _], _ => rfl
theorem has_is_possible_part {K : KF} {h : Heap} {mg : Str → Option Value} (X : K.In h) (G : h.Ns mainGlobals mg) (c : He.SaysD K09H.fa K09H.fn K) : Has K mg "is_possible_part" s_is_possible_part p_is_possible_part := by
  obtain ⟨fd, F⟩ := c.def_ 45 (d := K09H.d_is_possible_part) rfl
  exact has_def (He.glo_ok X G (c.fact 45 (f := .glo "is_possible_part") rfl)) F fun _ _ _ _ _ _ us hl => match us, hl with | [_, _, _, _], _ => rfl
theorem has_is_possible_step {K : KF} {h : Heap} {mg : Str → Option Value} (X : K.In h) (G : h.Ns mainGlobals mg) (c : He.SaysD K09H.fa K09H.fn K) : Has K mg "is_possible_step" s_is_possible_step p_is_possible_step := by
  obtain ⟨fd, F⟩ := c.def_ 46 (d := K09H.d_is_possible_step) rfl
  exact has_def (He.glo_ok X G (c.fact 46 (f := .glo "is_possible_step") rfl)) F fun _ _ _ _ _ _ us hl => match us, hl with | [_, _, _], _ => rfl
theorem has_is_deed {K : KF} {h : Heap} {mg : Str → Option Value} (X : K.In h) (G : h.Ns mainGlobals mg) (c : He.SaysD K09H.fa K09H.fn K) : Has K mg "is_deed" s_is_deed p_is_deed := by
  obtain ⟨fd, F⟩ := c.def_ 47 (d := K09H.d_is_deed) rfl
  exact has_def (He.glo_ok X G (c.fact 47 (f := .glo "is_deed") rfl)) F fun _ _ _ _ _ _ us hl => match us, hl with | [_, _, _], _ => rfl
theorem has_demand_deed {K : KF} {h : Heap} {mg : Str → Option Value} (X : K.In h) (G : h.Ns mainGlobals mg) (c : He.SaysD K09H.fa K09H.fn K) : Has K mg "demand_deed" s_demand_deed p_demand_deed := by
  obtain ⟨fd, F⟩ := c.def_ 48 (d := K09H.d_demand_deed) rfl
  exact has_def (He.glo_ok X G (c.fact 48 (f := .glo "demand_deed") rfl)) F fun _ _ _ _ _ _ us hl => match us, hl with | [_, _, _], _ => rfl
theorem has_deed_of {K : KF} {h : Heap} {mg : Str → Option Value} (X : K.In h) (G : h.Ns mainGlobals mg) (c : He.SaysD K09H.fa K09H.fn K) : Has K mg "deed_of" s_deed_of p_deed_of := by
  obtain ⟨fd, F⟩ := c.def_ 49 (d := K09H.d_deed_of) rfl
  exact has_def (He.glo_ok X G (c.fact 49 (f := .glo "deed_of") rfl)) F fun _ _ _ _ _ _ us hl => match us, hl with | [_, _], _ => rfl
theorem has_served {K : KF} {h : Heap} {mg : Str → Option Value} (X : K.In h) (G : h.Ns mainGlobals mg) (c : He.SaysD K09H.fa K09H.fn K) : Has K mg "served" s_served p_served := by
  obtain ⟨fd, F⟩ := c.def_ 50 (d := K09H.d_served) rfl
  exact has_def (He.glo_ok X G (c.fact 50 (f := .glo "served") rfl)) F fun _ _ _ _ _ _ us hl => match us, hl with | [_, _, _, _], _ => rfl
theorem has__law_cell {K : KF} {h : Heap} {mg : Str → Option Value} (X : K.In h) (G : h.Ns mainGlobals mg) (c : He.SaysD K09H.fa K09H.fn K) : Has K mg "_law_cell" s__law_cell p__law_cell := by
  obtain ⟨fd, F⟩ := c.def_ 51 (d := K09H.d__law_cell) rfl
  exact has_def (He.glo_ok X G (c.fact 51 (f := .glo "_law_cell") rfl)) F fun _ _ _ _ _ _ us hl => match us, hl with | [_, _], _ => rfl
theorem has__law_row {K : KF} {h : Heap} {mg : Str → Option Value} (X : K.In h) (G : h.Ns mainGlobals mg) (c : He.SaysD K09H.fa K09H.fn K) : Has K mg "_law_row" s__law_row p__law_row := by
  obtain ⟨fd, F⟩ := c.def_ 52 (d := K09H.d__law_row) rfl
  exact has_def (He.glo_ok X G (c.fact 52 (f := .glo "_law_row") rfl)) F fun _ _ _ _ _ _ us hl => match us, hl with | [_, _], _ => rfl
theorem has__law_word {K : KF} {h : Heap} {mg : Str → Option Value} (X : K.In h) (G : h.Ns mainGlobals mg) (c : He.SaysD K09H.fa K09H.fn K) : Has K mg "_law_word" s__law_word p__law_word := by
  obtain ⟨fd, F⟩ := c.def_ 53 (d := K09H.d__law_word) rfl
  exact has_def (He.glo_ok X G (c.fact 53 (f := .glo "_law_word") rfl)) F fun _ _ _ _ _ _ us hl => match us, hl with | [_], _ => rfl
theorem has__law_words {K : KF} {h : Heap} {mg : Str → Option Value} (X : K.In h) (G : h.Ns mainGlobals mg) (c : He.SaysD K09H.fa K09H.fn K) : Has K mg "_law_words" s__law_words p__law_words := by
  obtain ⟨fd, F⟩ := c.def_ 54 (d := K09H.d__law_words) rfl
  exact has_def (He.glo_ok X G (c.fact 54 (f := .glo "_law_words") rfl)) F fun _ _ _ _ _ _ us hl => match us, hl with | [_], _ => rfl
theorem has__law_sources {K : KF} {h : Heap} {mg : Str → Option Value} (X : K.In h) (G : h.Ns mainGlobals mg) (c : He.SaysD K09H.fa K09H.fn K) : Has K mg "_law_sources" s__law_sources p__law_sources := by
  obtain ⟨fd, F⟩ := c.def_ 55 (d := K09H.d__law_sources) rfl
  exact has_def (He.glo_ok X G (c.fact 55 (f := .glo "_law_sources") rfl)) F fun _ _ _ _ _ _ us hl => match us, hl with | [_, _, _], _ => rfl
theorem has__law_outputs {K : KF} {h : Heap} {mg : Str → Option Value} (X : K.In h) (G : h.Ns mainGlobals mg) (c : He.SaysD K09H.fa K09H.fn K) : Has K mg "_law_outputs" s__law_outputs p__law_outputs := by
  obtain ⟨fd, F⟩ := c.def_ 56 (d := K09H.d__law_outputs) rfl
  exact has_def (He.glo_ok X G (c.fact 56 (f := .glo "_law_outputs") rfl)) F fun _ _ _ _ _ _ us hl => match us, hl with | [_, _, _, _], _ => rfl
theorem has__law_keys {K : KF} {h : Heap} {mg : Str → Option Value} (X : K.In h) (G : h.Ns mainGlobals mg) (c : He.SaysD K09H.fa K09H.fn K) : Has K mg "_law_keys" s__law_keys p__law_keys := by
  obtain ⟨fd, F⟩ := c.def_ 57 (d := K09H.d__law_keys) rfl
  exact has_def (He.glo_ok X G (c.fact 57 (f := .glo "_law_keys") rfl)) F fun _ _ _ _ _ _ us hl => match us, hl with | [_, _], _ => rfl
theorem has__law_program {K : KF} {h : Heap} {mg : Str → Option Value} (X : K.In h) (G : h.Ns mainGlobals mg) (c : He.SaysD K09H.fa K09H.fn K) : Has K mg "_law_program" s__law_program p__law_program := by
  obtain ⟨fd, F⟩ := c.def_ 58 (d := K09H.d__law_program) rfl
  exact has_def (He.glo_ok X G (c.fact 58 (f := .glo "_law_program") rfl)) F fun _ _ _ _ _ _ us hl => match us, hl with | [_, _], _ => rfl
theorem has__law_chain_plan {K : KF} {h : Heap} {mg : Str → Option Value} (X : K.In h) (G : h.Ns mainGlobals mg) (c : He.SaysD K09H.fa K09H.fn K) : Has K mg "_law_chain_plan" s__law_chain_plan p__law_chain_plan := by
  obtain ⟨fd, F⟩ := c.def_ 59 (d := K09H.d__law_chain_plan) rfl
  exact has_def (He.glo_ok X G (c.fact 59 (f := .glo "_law_chain_plan") rfl)) F fun _ _ _ _ _ _ us hl => match us, hl with | [_], _ => rfl
theorem has__law_chain {K : KF} {h : Heap} {mg : Str → Option Value} (X : K.In h) (G : h.Ns mainGlobals mg) (c : He.SaysD K09H.fa K09H.fn K) : Has K mg "_law_chain" s__law_chain p__law_chain := by
  obtain ⟨fd, F⟩ := c.def_ 60 (d := K09H.d__law_chain) rfl
  exact has_def (He.glo_ok X G (c.fact 60 (f := .glo "_law_chain") rfl)) F fun _ _ _ _ _ _ us hl => match us, hl with | [_], _ => rfl
theorem has__law_position {K : KF} {h : Heap} {mg : Str → Option Value} (X : K.In h) (G : h.Ns mainGlobals mg) (c : He.SaysD K09H.fa K09H.fn K) : Has K mg "_law_position" s__law_position p__law_position := by
  obtain ⟨fd, F⟩ := c.def_ 61 (d := K09H.d__law_position) rfl
  exact has_def (He.glo_ok X G (c.fact 61 (f := .glo "_law_position") rfl)) F fun _ _ _ _ _ _ us hl => match us, hl with | [_, _], _ => rfl
theorem has__law_step {K : KF} {h : Heap} {mg : Str → Option Value} (X : K.In h) (G : h.Ns mainGlobals mg) (c : He.SaysD K09H.fa K09H.fn K) : Has K mg "_law_step" s__law_step p__law_step := by
  obtain ⟨fd, F⟩ := c.def_ 62 (d := K09H.d__law_step) rfl
  exact has_def (He.glo_ok X G (c.fact 62 (f := .glo "_law_step") rfl)) F fun _ _ _ _ _ _ us hl => match us, hl with | [_, _, _], _ => rfl
theorem has__law_chain_step {K : KF} {h : Heap} {mg : Str → Option Value} (X : K.In h) (G : h.Ns mainGlobals mg) (c : He.SaysD K09H.fa K09H.fn K) : Has K mg "_law_chain_step" s__law_chain_step p__law_chain_step := by
  obtain ⟨fd, F⟩ := c.def_ 63 (d := K09H.d__law_chain_step) rfl
  exact has_def (He.glo_ok X G (c.fact 63 (f := .glo "_law_chain_step") rfl)) F fun _ _ _ _ _ _ us hl => match us, hl with | [_, _, _], _ => rfl
theorem has__law_deed {K : KF} {h : Heap} {mg : Str → Option Value} (X : K.In h) (G : h.Ns mainGlobals mg) (c : He.SaysD K09H.fa K09H.fn K) : Has K mg "_law_deed" s__law_deed p__law_deed := by
  obtain ⟨fd, F⟩ := c.def_ 64 (d := K09H.d__law_deed) rfl
  exact has_def (He.glo_ok X G (c.fact 64 (f := .glo "_law_deed") rfl)) F fun _ _ _ _ _ _ us hl => match us, hl with | [_, _, _], _ => rfl
theorem has__law_start {K : KF} {h : Heap} {mg : Str → Option Value} (X : K.In h) (G : h.Ns mainGlobals mg) (c : He.SaysD K09H.fa K09H.fn K) : Has K mg "_law_start" s__law_start p__law_start := by
  obtain ⟨fd, F⟩ := c.def_ 65 (d := K09H.d__law_start) rfl
  exact has_def (He.glo_ok X G (c.fact 65 (f := .glo "_law_start") rfl)) F fun _ _ _ _ _ _ us hl => match us, hl with | [_], _ => rfl
theorem has__law_input {K : KF} {h : Heap} {mg : Str → Option Value} (X : K.In h) (G : h.Ns mainGlobals mg) (c : He.SaysD K09H.fa K09H.fn K) : Has K mg "_law_input" s__law_input p__law_input := by
  obtain ⟨fd, F⟩ := c.def_ 66 (d := K09H.d__law_input) rfl
  exact has_def (He.glo_ok X G (c.fact 66 (f := .glo "_law_input") rfl)) F fun _ _ _ _ _ _ us hl => match us, hl with | [_, _, _], _ => rfl
theorem has__law_beginning {K : KF} {h : Heap} {mg : Str → Option Value} (X : K.In h) (G : h.Ns mainGlobals mg) (c : He.SaysD K09H.fa K09H.fn K) : Has K mg "_law_beginning" s__law_beginning p__law_beginning := by
  obtain ⟨fd, F⟩ := c.def_ 67 (d := K09H.d__law_beginning) rfl
  exact has_def (He.glo_ok X G (c.fact 67 (f := .glo "_law_beginning") rfl)) F fun _ _ _ _ _ _ us hl => match us, hl with | [_, _], _ => rfl
theorem has__law_integers {K : KF} {h : Heap} {mg : Str → Option Value} (X : K.In h) (G : h.Ns mainGlobals mg) (c : He.SaysD K09H.fa K09H.fn K) : Has K mg "_law_integers" s__law_integers p__law_integers := by
  obtain ⟨fd, F⟩ := c.def_ 68 (d := K09H.d__law_integers) rfl
  exact has_def (He.glo_ok X G (c.fact 68 (f := .glo "_law_integers") rfl)) F fun _ _ _ _ _ _ us hl => match us, hl with | [_, _], _ => rfl
theorem has__law_rank {K : KF} {h : Heap} {mg : Str → Option Value} (X : K.In h) (G : h.Ns mainGlobals mg) (c : He.SaysD K09H.fa K09H.fn K) : Has K mg "_law_rank" s__law_rank p__law_rank := by
  obtain ⟨fd, F⟩ := c.def_ 69 (d := K09H.d__law_rank) rfl
  exact has_def (He.glo_ok X G (c.fact 69 (f := .glo "_law_rank") rfl)) F fun _ _ _ _ _ _ us hl => match us, hl with | [_, _], _ => rfl
theorem has__law_class {K : KF} {h : Heap} {mg : Str → Option Value} (X : K.In h) (G : h.Ns mainGlobals mg) (c : He.SaysD K09H.fa K09H.fn K) : Has K mg "_law_class" s__law_class p__law_class := by
  obtain ⟨fd, F⟩ := c.def_ 70 (d := K09H.d__law_class) rfl
  exact has_def (He.glo_ok X G (c.fact 70 (f := .glo "_law_class") rfl)) F fun _ _ _ _ _ _ us hl => match us, hl with | [_, _], _ => rfl
theorem has__law_mapped {K : KF} {h : Heap} {mg : Str → Option Value} (X : K.In h) (G : h.Ns mainGlobals mg) (c : He.SaysD K09H.fa K09H.fn K) : Has K mg "_law_mapped" s__law_mapped p__law_mapped := by
  obtain ⟨fd, F⟩ := c.def_ 71 (d := K09H.d__law_mapped) rfl
  exact has_def (He.glo_ok X G (c.fact 71 (f := .glo "_law_mapped") rfl)) F fun _ _ _ _ _ _ us hl => match us, hl with | [_, _], _ => rfl
theorem has_Program {K : KF} {h : Heap} {mg : Str → Option Value} (X : K.In h) (G : h.Ns mainGlobals mg) (c : He.SaysD K09H.fa K09H.fn K) : HasI K mg "Program" all_Program s_Program p_Program "Program.__init__" := by
  obtain ⟨fd, F⟩ := c.def_ 73 (d := K09H.d_Program___init__) rfl
  refine hasI_def (He.glo_ok X G (c.fact 110 (f := .glo "Program") rfl)) (He.mkr_ok (c.fact 112 (f := .mkr "Program") rfl)) (He.eqO_ok (c.fact 110 (f := .glo "Program") rfl)) (He.cls_ok (c.fact 111 (f := .cls "Program") rfl)) (fun f hf => ?_) F fun _ _ _ _ _ _ us hl => match us, hl with | [_, _, _, _, _], _ => rfl
  simp only [all_Program, List.mem_cons, List.not_mem_nil, or_false] at hf
  rcases hf with rfl | rfl | rfl | rfl | rfl
  · exact He.noat_ok (c.fact 114 (f := .noat "Program" "channels") rfl)
  · exact He.noat_ok (c.fact 115 (f := .noat "Program" "names") rfl)
  · exact He.noat_ok (c.fact 116 (f := .noat "Program" "rules") rfl)
  · exact He.noat_ok (c.fact 117 (f := .noat "Program" "states") rfl)
  · exact He.noat_ok (c.fact 118 (f := .noat "Program" "table") rfl)
theorem has_Chain {K : KF} {h : Heap} {mg : Str → Option Value} (X : K.In h) (G : h.Ns mainGlobals mg) (c : He.SaysD K09H.fa K09H.fn K) : HasI K mg "Chain" all_Chain s_Chain p_Chain "Chain.__init__" := by
  obtain ⟨fd, F⟩ := c.def_ 74 (d := K09H.d_Chain___init__) rfl
  refine hasI_def1 (He.glo_ok X G (c.fact 119 (f := .glo "Chain") rfl)) (He.mkr_ok (c.fact 121 (f := .mkr "Chain") rfl)) (He.eqO_ok (c.fact 119 (f := .glo "Chain") rfl)) (He.cls_ok (c.fact 120 (f := .cls "Chain") rfl)) (fun f hf => ?_) F fun _ _ _ _ _ _ _ us its hl hl2 => match us, its, hl, hl2 with | [_, _, _], [_], _, _ => ⟨_, rfl, rfl⟩
  simp only [all_Chain, List.mem_cons, List.not_mem_nil, or_false] at hf
  rcases hf with rfl | rfl
  · exact He.noat_ok (c.fact 123 (f := .noat "Chain" "links") rfl)
  · exact He.noat_ok (c.fact 124 (f := .noat "Chain" "programs") rfl)
theorem facts {w : World} {K : KF} {h : Heap} {mg : Str → Option Value} {f : Addr} (X : K.In h) (G : h.Ns mainGlobals mg) (hfa : mg ("law" : Str) = some (.ref f)) (c : He.SaysD K09H.fa K09H.fn K) (cx : K09H.ex K = true) :
    ∃ fd : FuncData, (∀ (s : Shared) (v : Value), BindsTo s fd ⟨[v], []⟩ [("script", v)]) ∧ ∀ base : Heap, K.In base → base.Ns mainGlobals mg → FnOk (PySem.Challenge.rw_piecetold_k09_whole_one_deed_for_all).prog w K mg base (L2.CX (PySem.Challenge.rw_piecetold_k09_whole_one_deed_for_all).prog w) 13 f fd ["script"] (spD K mg 1 m_law) := by
  have B := bt X G c cx
  obtain ⟨fd, F⟩ := c.def_ 72 (d := K09H.d_law) rfl
  have e := hfa.symm.trans (He.glo_ok X G (c.fact 72 (f := .glo "law") rfl))
  cases e
  have b := FunD.bindsA (ps := ["script"]) F fun _ _ _ _ _ _ us hl => match us, hl with | [_], _ => rfl
  refine ⟨fd, fun s v => b s [v] rfl, fun base _ _ => ?_⟩
  have G_is_row := ok_is_row (P := (PySem.Challenge.rw_piecetold_k09_whole_one_deed_for_all).prog) (w := w) (base := base) B  (has_is_row X G c)
  have G_is_row_of := ok_is_row_of (P := (PySem.Challenge.rw_piecetold_k09_whole_one_deed_for_all).prog) (w := w) (base := base) B G_is_row (has_is_row_of X G c)
  have G_is_integer := ok_is_integer (P := (PySem.Challenge.rw_piecetold_k09_whole_one_deed_for_all).prog) (w := w) (base := base) B  (has_is_integer X G c)
  have G_is_index := ok_is_index (P := (PySem.Challenge.rw_piecetold_k09_whole_one_deed_for_all).prog) (w := w) (base := base) B G_is_integer (has_is_index X G c)
  have G_is_word := ok_is_word (P := (PySem.Challenge.rw_piecetold_k09_whole_one_deed_for_all).prog) (w := w) (base := base) B  (has_is_word X G c)
  have G_is_ascending := ok_is_ascending (P := (PySem.Challenge.rw_piecetold_k09_whole_one_deed_for_all).prog) (w := w) (base := base) B  (has_is_ascending X G c)
  have G_demand := ok_demand (P := (PySem.Challenge.rw_piecetold_k09_whole_one_deed_for_all).prog) (w := w) (base := base) B  (has_demand X G c)
  have G_words_from := ok_words_from (P := (PySem.Challenge.rw_piecetold_k09_whole_one_deed_for_all).prog) (w := w) (base := base) B G_demand G_is_row_of G_is_word (has_words_from X G c)
  have G_channels_from := ok_channels_from (P := (PySem.Challenge.rw_piecetold_k09_whole_one_deed_for_all).prog) (w := w) (base := base) B G_demand G_is_row_of G_words_from (has_channels_from X G c)
  have G_states_from := ok_states_from (P := (PySem.Challenge.rw_piecetold_k09_whole_one_deed_for_all).prog) (w := w) (base := base) B G_demand G_is_row_of G_is_index (has_states_from X G c)
  have G_sources_from := ok_sources_from (P := (PySem.Challenge.rw_piecetold_k09_whole_one_deed_for_all).prog) (w := w) (base := base) B G_demand G_is_row_of G_is_index G_is_ascending (has_sources_from X G c)
  have G_positions_among := ok_positions_among (P := (PySem.Challenge.rw_piecetold_k09_whole_one_deed_for_all).prog) (w := w) (base := base) B  (has_positions_among X G c)
  have G_candidates_at := ok_candidates_at (P := (PySem.Challenge.rw_piecetold_k09_whole_one_deed_for_all).prog) (w := w) (base := base) B  (has_candidates_at X G c)
  have G_signals_of := ok_signals_of (P := (PySem.Challenge.rw_piecetold_k09_whole_one_deed_for_all).prog) (w := w) (base := base) B  (has_signals_of X G c)
  have G_position_of := ok_position_of (P := (PySem.Challenge.rw_piecetold_k09_whole_one_deed_for_all).prog) (w := w) (base := base) B  (has_position_of X G c)
  have G_candidates_of := ok_candidates_of (P := (PySem.Challenge.rw_piecetold_k09_whole_one_deed_for_all).prog) (w := w) (base := base) B  (has_candidates_of X G c)
  have G_step := ok_step (P := (PySem.Challenge.rw_piecetold_k09_whole_one_deed_for_all).prog) (w := w) (base := base) B G_position_of G_candidates_of (has_step X G c)
  have G_names_of := ok_names_of (P := (PySem.Challenge.rw_piecetold_k09_whole_one_deed_for_all).prog) (w := w) (base := base) B  (has_names_of X G c)
  have G_is_configuration := ok_is_configuration (P := (PySem.Challenge.rw_piecetold_k09_whole_one_deed_for_all).prog) (w := w) (base := base) B G_is_row_of G_is_row G_is_index G_is_ascending G_is_integer (has_is_configuration X G c)
  have G_is_beginning := ok_is_beginning (P := (PySem.Challenge.rw_piecetold_k09_whole_one_deed_for_all).prog) (w := w) (base := base) B G_is_row G_is_configuration (has_is_beginning X G c)
  have G_is_message := ok_is_message (P := (PySem.Challenge.rw_piecetold_k09_whole_one_deed_for_all).prog) (w := w) (base := base) B G_is_integer G_names_of G_is_row_of (has_is_message X G c)
  have G_is_input := ok_is_input (P := (PySem.Challenge.rw_piecetold_k09_whole_one_deed_for_all).prog) (w := w) (base := base) B G_is_message G_is_row (has_is_input X G c)
  have G_heard_by := ok_heard_by (P := (PySem.Challenge.rw_piecetold_k09_whole_one_deed_for_all).prog) (w := w) (base := base) B G_step (has_heard_by X G c)
  have G_messages_on := ok_messages_on (P := (PySem.Challenge.rw_piecetold_k09_whole_one_deed_for_all).prog) (w := w) (base := base) B  (has_messages_on X G c)
  have G_chain_step := ok_chain_step (P := (PySem.Challenge.rw_piecetold_k09_whole_one_deed_for_all).prog) (w := w) (base := base) B G_heard_by G_messages_on (has_chain_step X G c)
  have G_deed_from := ok_deed_from (P := (PySem.Challenge.rw_piecetold_k09_whole_one_deed_for_all).prog) (w := w) (base := base) B G_is_beginning G_is_input G_chain_step (has_deed_from X G c)
  have G_tuples_of := ok_tuples_of (P := (PySem.Challenge.rw_piecetold_k09_whole_one_deed_for_all).prog) (w := w) (base := base) B G_is_row (has_tuples_of X G c)
  have G_integers_in := ok_integers_in (P := (PySem.Challenge.rw_piecetold_k09_whole_one_deed_for_all).prog) (w := w) (base := base) B  (has_integers_in X G c)
  have G_ranks_of := ok_ranks_of (P := (PySem.Challenge.rw_piecetold_k09_whole_one_deed_for_all).prog) (w := w) (base := base) B  (has_ranks_of X G c)
  have G_beginning_with := ok_beginning_with (P := (PySem.Challenge.rw_piecetold_k09_whole_one_deed_for_all).prog) (w := w) (base := base) B  (has_beginning_with X G c)
  have G_messages_with := ok_messages_with (P := (PySem.Challenge.rw_piecetold_k09_whole_one_deed_for_all).prog) (w := w) (base := base) B  (has_messages_with X G c)
  have G_part_with := ok_part_with (P := (PySem.Challenge.rw_piecetold_k09_whole_one_deed_for_all).prog) (w := w) (base := base) B  (has_part_with X G c)
  have G_steps_with := ok_steps_with (P := (PySem.Challenge.rw_piecetold_k09_whole_one_deed_for_all).prog) (w := w) (base := base) B G_part_with (has_steps_with X G c)
  have G_ranked := ok_ranked (P := (PySem.Challenge.rw_piecetold_k09_whole_one_deed_for_all).prog) (w := w) (base := base) B G_ranks_of G_integers_in G_beginning_with G_messages_with (has_ranked X G c)
  have G_is_class_input := ok_is_class_input (P := (PySem.Challenge.rw_piecetold_k09_whole_one_deed_for_all).prog) (w := w) (base := base) B G_is_input G_is_row_of (has_is_class_input X G c)
  have G_demand_class_input := ok_demand_class_input (P := (PySem.Challenge.rw_piecetold_k09_whole_one_deed_for_all).prog) (w := w) (base := base) B G_is_class_input (has_demand_class_input X G c)
  have G_class_of := ok_class_of (P := (PySem.Challenge.rw_piecetold_k09_whole_one_deed_for_all).prog) (w := w) (base := base) B G_is_beginning G_demand_class_input G_ranked (has_class_of X G c)
  have G_is_class := ok_is_class (P := (PySem.Challenge.rw_piecetold_k09_whole_one_deed_for_all).prog) (w := w) (base := base) B G_is_class_input G_is_beginning G_is_row_of G_integers_in (has_is_class X G c)
  have G_class_from := ok_class_from (P := (PySem.Challenge.rw_piecetold_k09_whole_one_deed_for_all).prog) (w := w) (base := base) B G_is_class G_tuples_of (has_class_from X G c)
  have G_is_possible_output := ok_is_possible_output (P := (PySem.Challenge.rw_piecetold_k09_whole_one_deed_for_all).prog) (w := w) (base := base) B G_is_row_of G_is_index G_signals_of (has_is_possible_output X G c)
  have G_is_possible_part := ok_is_possible_part (P := (PySem.Challenge.rw_piecetold_k09_whole_one_deed_for_all).prog) (w := w) (base := base) B G_is_configuration G_is_row_of G_is_index G_is_possible_output (has_is_possible_part X G c)
  have G_is_possible_step := ok_is_possible_step (P := (PySem.Challenge.rw_piecetold_k09_whole_one_deed_for_all).prog) (w := w) (base := base) B G_is_row G_is_possible_part (has_is_possible_step X G c)
  have G_is_deed := ok_is_deed (P := (PySem.Challenge.rw_piecetold_k09_whole_one_deed_for_all).prog) (w := w) (base := base) B G_is_row G_integers_in G_is_possible_step (has_is_deed X G c)
  have G_demand_deed := ok_demand_deed (P := (PySem.Challenge.rw_piecetold_k09_whole_one_deed_for_all).prog) (w := w) (base := base) B G_is_deed (has_demand_deed X G c)
  have G_deed_of := ok_deed_of (P := (PySem.Challenge.rw_piecetold_k09_whole_one_deed_for_all).prog) (w := w) (base := base) B G_class_from G_deed_from (has_deed_of X G c)
  have G_served := ok_served (P := (PySem.Challenge.rw_piecetold_k09_whole_one_deed_for_all).prog) (w := w) (base := base) B G_demand_deed G_class_of G_steps_with G_integers_in (has_served X G c)
  have G__law_cell := ok__law_cell (P := (PySem.Challenge.rw_piecetold_k09_whole_one_deed_for_all).prog) (w := w) (base := base) B  (has__law_cell X G c)
  have G__law_row := ok__law_row (P := (PySem.Challenge.rw_piecetold_k09_whole_one_deed_for_all).prog) (w := w) (base := base) B  (has__law_row X G c)
  have G__law_word := ok__law_word (P := (PySem.Challenge.rw_piecetold_k09_whole_one_deed_for_all).prog) (w := w) (base := base) B  (has__law_word X G c)
  have G__law_words := ok__law_words (P := (PySem.Challenge.rw_piecetold_k09_whole_one_deed_for_all).prog) (w := w) (base := base) B G__law_word (has__law_words X G c)
  have G__law_sources := ok__law_sources (P := (PySem.Challenge.rw_piecetold_k09_whole_one_deed_for_all).prog) (w := w) (base := base) B  (has__law_sources X G c)
  have G__law_outputs := ok__law_outputs (P := (PySem.Challenge.rw_piecetold_k09_whole_one_deed_for_all).prog) (w := w) (base := base) B  (has__law_outputs X G c)
  have G__law_keys := ok__law_keys (P := (PySem.Challenge.rw_piecetold_k09_whole_one_deed_for_all).prog) (w := w) (base := base) B  (has__law_keys X G c)
  have G__law_program := ok__law_program (P := (PySem.Challenge.rw_piecetold_k09_whole_one_deed_for_all).prog) (w := w) (base := base) B G__law_row G__law_words G__law_keys G__law_outputs G__law_sources (has__law_program X G c)
  have G__law_chain_plan := ok__law_chain_plan (P := (PySem.Challenge.rw_piecetold_k09_whole_one_deed_for_all).prog) (w := w) (base := base) B G__law_row G__law_cell G__law_program G__law_words (has__law_chain_plan X G c)
  have G__law_position := ok__law_position (P := (PySem.Challenge.rw_piecetold_k09_whole_one_deed_for_all).prog) (w := w) (base := base) B  (has__law_position X G c)
  have G__law_step := ok__law_step (P := (PySem.Challenge.rw_piecetold_k09_whole_one_deed_for_all).prog) (w := w) (base := base) B G__law_position (has__law_step X G c)
  have G__law_chain_step := ok__law_chain_step (P := (PySem.Challenge.rw_piecetold_k09_whole_one_deed_for_all).prog) (w := w) (base := base) B G__law_step (has__law_chain_step X G c)
  have G__law_deed := ok__law_deed (P := (PySem.Challenge.rw_piecetold_k09_whole_one_deed_for_all).prog) (w := w) (base := base) B G__law_chain_step (has__law_deed X G c)
  have G__law_input := ok__law_input (P := (PySem.Challenge.rw_piecetold_k09_whole_one_deed_for_all).prog) (w := w) (base := base) B G__law_row (has__law_input X G c)
  have G__law_beginning := ok__law_beginning (P := (PySem.Challenge.rw_piecetold_k09_whole_one_deed_for_all).prog) (w := w) (base := base) B G__law_row (has__law_beginning X G c)
  have G_Chain := ok_Chain (P := (PySem.Challenge.rw_piecetold_k09_whole_one_deed_for_all).prog) (w := w) (base := base) B G_is_row_of G_signals_of (has_Chain X G c)
  have G_output_from := ok_output_from (P := (PySem.Challenge.rw_piecetold_k09_whole_one_deed_for_all).prog) (w := w) (base := base) B G_demand G_is_row_of G_signals_of G_is_index (has_output_from X G c)
  have G_outputs_from := ok_outputs_from (P := (PySem.Challenge.rw_piecetold_k09_whole_one_deed_for_all).prog) (w := w) (base := base) B G_demand G_is_row_of G_output_from (has_outputs_from X G c)
  have G_rule_from := ok_rule_from (P := (PySem.Challenge.rw_piecetold_k09_whole_one_deed_for_all).prog) (w := w) (base := base) B G_demand G_is_row_of G_is_index G_positions_among G_candidates_at G_sources_from G_outputs_from (has_rule_from X G c)
  have G_table_from := ok_table_from (P := (PySem.Challenge.rw_piecetold_k09_whole_one_deed_for_all).prog) (w := w) (base := base) B G_demand G_is_row G_rule_from (has_table_from X G c)
  have G_situations_of := ok_situations_of (P := (PySem.Challenge.rw_piecetold_k09_whole_one_deed_for_all).prog) (w := w) (base := base) B G_positions_among (has_situations_of X G c)
  have G_Program := ok_Program (P := (PySem.Challenge.rw_piecetold_k09_whole_one_deed_for_all).prog) (w := w) (base := base) B G_words_from G_channels_from G_states_from G_table_from G_situations_of G_demand (has_Program X G c)
  have G__law_chain := ok__law_chain (P := (PySem.Challenge.rw_piecetold_k09_whole_one_deed_for_all).prog) (w := w) (base := base) B G_Program G_Chain (has__law_chain X G c)
  exact ok_law B G__law_chain_plan G__law_chain G__law_cell G__law_beginning G__law_input G_class_of G_deed_of G_is_deed G__law_deed G_served G_deed_from (fun_D F)
end K09E
open PySem PySem.W PySem.Calls PyProof.Rows
theorem K09_of (math : ∀ ns : List Int, ns.length ≤ 63 → K09.m_law [DL.D.scr ns] = .ok (.val (.bl true))) : PySem.Challenge.rw_piecetold_k09_whole_one_deed_for_all.Holds := by
  w_on; o_law
  refine HandSHeadRun.head_any (r := OpenLaw.row PySem.Challenge.rw_piecetold_k09_whole_one_deed_for_all) (q := view (OpenLaw.row PySem.Challenge.rw_piecetold_k09_whole_one_deed_for_all).prog [96]) (H := K09H.hk) (ob := K09H.ob) (M := 8000) (loose := K09H.names) (d := HandSHeadRun.topDef (OpenLaw.row PySem.Challenge.rw_piecetold_k09_whole_one_deed_for_all).prog 96) (kwd := []) K09H.ob_eq
    (by kernel_rfl) (fun s => by kernel_rfl) K09H.run (by kernel_rfl) (by kernel_rfl) (by kernel_rfl) (by rfl) (by first | assumption | decide +kernel) (by decide +kernel) ⟨rfl, rfl, rfl, rfl, rfl, by decide +kernel⟩ ?hw ?hc
  case hw => w_witness2
  case hc =>
    refine DL.walk_ofX (l := PySem.Challenge.rw_piecetold_k09_whole_one_deed_for_all) (n := 63) (k := 13) (x := "script") (CX := fun w => L2.CX (PySem.Challenge.rw_piecetold_k09_whole_one_deed_for_all).prog w) rfl (by decide) (by kernel_rfl) ⟨rfl, by decide, by decide⟩ ?F (fun _ _ _ _ _ z => DL.cx_none z)
    intro w mg fa h Y G hmg0
    obtain ⟨K, KX, c, cx⟩ := Y
    have hmg : mg ("law" : PySem.Str) = some (.ref fa) := by
      have e : (HandSHeadRun.topDef (OpenLaw.row PySem.Challenge.rw_piecetold_k09_whole_one_deed_for_all).prog 96).name = ("law" : PySem.Str) := by kernel_rfl
      rw [← e]
      exact hmg0
    obtain ⟨fd, hb, hF⟩ := K09E.facts (w := w) KX G hmg c cx
    exact ⟨K, fd, DL.spD K mg 1 K09.m_law, KX, hb, fun H a ns hl _ hS => DL.spD_law (math ns hl) hS, hF⟩
/-! DM: mathematics over mirrors. -/
namespace DL
open PySem PySem.Spec PyProof.Rows L2

/-! ### items, slices -/
theorem atI_ofNat {α : Type} (xs : List α) (k : Nat) : atI xs (k : Int) = xs[k]? := by
  cases h : xs[k]? with
  | some v => exact atI_nat h
  | none =>
    have hk : xs.length ≤ k := List.getElem?_eq_none_iff.mp h
    unfold atI ixN
    rw [if_pos (by omega), if_neg (by omega)]; rfl
theorem atI_int {α : Type} {xs : List α} {i : Int} (h : 0 ≤ i) : atI xs i = xs[i.toNat]? := by
  conv => lhs; rw [show i = ((i.toNat : Nat) : Int) by omega]
  exact atI_ofNat _ _
theorem sIx_ofNat (n d k : Nat) : HT.sIx n d (some (k : Int)) = min k n := HT.sIx_nat n d k
theorem cut_to {α : Type} (xs : List α) (k : Nat) : cut xs none (some (k : Int)) = xs.take k := by
  unfold cut
  rw [HT.sIx_none, HT.sIx_nat, List.drop_zero, Nat.sub_zero, ← List.take_eq_take_min]
theorem cut_from {α : Type} (xs : List α) (k : Nat) : cut xs (some (k : Int)) none = xs.drop k := by
  unfold cut
  rw [HT.sIx_none, HT.sIx_nat]
  rcases Nat.le_total k xs.length with h | h
  · rw [Nat.min_eq_left h]; exact List.take_of_length_le (by simp)
  · rw [Nat.min_eq_right h, List.drop_of_length_le (Nat.le_refl _), List.drop_of_length_le h, List.take_nil]
theorem cut_mid {α : Type} (xs : List α) (j k : Nat) : cut xs (some (j : Int)) (some (k : Int)) = (xs.drop j).take (k - j) := by
  unfold cut
  rw [HT.sIx_nat, HT.sIx_nat]
  rcases Nat.le_total j xs.length with h | h
  · rw [Nat.min_eq_left h]
    rcases Nat.le_total k xs.length with h2 | h2
    · rw [Nat.min_eq_left h2]
    · rw [Nat.min_eq_right h2, List.take_of_length_le (by simp), List.take_of_length_le (by simp; omega)]
  · rw [Nat.min_eq_right h, List.drop_of_length_le (Nat.le_refl _), List.drop_of_length_le h, List.take_nil, List.take_nil]

/-! ### == of equal data -/
inductive EqD : Nat → D → Prop
  | non (n : Nat) : EqD n .non
  | bl (n : Nat) (b : Bool) : EqD n (.bl b)
  | int (n : Nat) (i : Int) : EqD n (.int i)
  | str (n : Nat) {x : Str} : PyData.strOk x = true → EqD n (.str x)
  | tup {n : Nat} {xs : List D} : (∀ d ∈ xs, EqD n d) → EqD (n + 1) (.tup xs)
  | lst {n : Nat} {xs : List D} : (∀ d ∈ xs, EqD n d) → EqD (n + 1) (.lst xs)
theorem EqD.mono {n m : Nat} {d : D} (h : EqD n d) (k : n ≤ m) : EqD m d := by
  induction h generalizing m with
  | non => exact .non _
  | bl => exact .bl _ _
  | int => exact .int _ _
  | str _ h => exact .str _ h
  | tup h ih =>
    obtain ⟨m, rfl⟩ : ∃ j, m = j + 1 := ⟨m - 1, by omega⟩
    exact .tup fun d hd => ih d hd (by omega)
  | lst h ih =>
    obtain ⟨m, rfl⟩ : ∃ j, m = j + 1 := ⟨m - 1, by omega⟩
    exact .lst fun d hd => ih d hd (by omega)
theorem pys_ok {n : Nat} : ∀ {xs : List D}, (∀ d ∈ xs, ∃ p, d.py = some p ∧ p.canLay0 = true ∧ p.depth ≤ n) → ∃ ps, pys xs = some ps ∧ PyData.canLayAll0 ps = true ∧ PyData.depthAll ps ≤ n
  | [], _ => ⟨[], rfl, rfl, Nat.zero_le _⟩
  | d :: ds, h => by
    obtain ⟨p, h1, h2, h3⟩ := h d List.mem_cons_self
    obtain ⟨ps, h4, h5, h6⟩ := pys_ok fun d hd => h d (List.mem_cons_of_mem _ hd)
    refine ⟨p :: ps, by simp [pys, h1, h4], by simp [PyData.canLayAll0, h2, h5], ?_⟩
    simp only [PyData.depthAll]
    omega
theorem EqD.py {n : Nat} {d : D} (h : EqD n d) : ∃ p, d.py = some p ∧ p.canLay0 = true ∧ p.depth ≤ n := by
  induction h with
  | non => exact ⟨_, rfl, rfl, Nat.zero_le _⟩
  | bl => exact ⟨_, rfl, rfl, Nat.zero_le _⟩
  | int => exact ⟨_, rfl, rfl, Nat.zero_le _⟩
  | str _ h => exact ⟨_, rfl, by simpa [PyData.canLay0] using h, Nat.zero_le _⟩
  | tup h ih =>
    obtain ⟨ps, h1, h2, h3⟩ := pys_ok ih
    exact ⟨.tuple ps, by simp [D.py, h1], by simpa [PyData.canLay0] using h2, by simp only [PyData.depth]; omega⟩
  | lst h ih =>
    obtain ⟨ps, h1, h2, h3⟩ := pys_ok ih
    exact ⟨.list ps, by simp [D.py, h1], by simpa [PyData.canLay0] using h2, by simp only [PyData.depth]; omega⟩
theorem cEq_self {d : D} (h : EqD 64 d) : cEq d d = some true := by
  obtain ⟨p, h1, h2, h3⟩ := h.py
  have hs : SeqAt.shaped p = true := by
    unfold SeqAt.shaped
    rw [h2, Bool.true_and]
    exact decide_eq_true h3
  unfold cEq
  rw [h1]
  show (some p).bind _ = _
  simp only [Option.bind_some, hs, Bool.and_self, if_pos]
  exact congrArg some (SeqAt.eqv_refl p h2)
theorem cNe_self {d : D} (h : EqD 64 d) : cNe d d = some false := by
  unfold cNe; rw [cEq_self h]; rfl
@[simp] theorem cEq_int (i j : Int) : cEq (.int i) (.int j) = some (i == j) := rfl
theorem cEq_str {x y : Str} (hx : PyData.strOk x = true) (hy : PyData.strOk y = true) : cEq (.str x) (.str y) = some (x == y) := by
  unfold cEq
  simp [D.py, SeqAt.shaped, PyData.canLay0, hx, hy, PyData.depth, PyData.eqv]

/-! ### loops -/
/-- a loop with an invariant that no turn leaves -/
theorem forD_inv {gt : D → Env → Option Env} {g : Env → Option Out} {Sg : Type} (st : Sg → Env) (P : List D → Sg → Prop) (items : List D)
    (step : ∀ pre d post s, items = pre ++ d :: post → P pre s → ∃ ρ1 s', gt d (st s) = some ρ1 ∧ (g ρ1 = some (.nx (st s')) ∨ g ρ1 = some (.ct (st s'))) ∧ P (pre ++ [d]) s') :
    ∀ pre post s, items = pre ++ post → P pre s → ∃ s', forD gt g post (st s) = some (.nx (st s')) ∧ P items s'
  | pre, [], s, e, p => ⟨s, rfl, by rw [e, List.append_nil]; exact p⟩
  | pre, d :: post, s, e, p => by
    obtain ⟨ρ1, s1, e1, e2, p1⟩ := step pre d post s e p
    obtain ⟨s', e3, p3⟩ := forD_inv st P items step (pre ++ [d]) post s1 (by rw [e]; simp) p1
    refine ⟨s', ?_, p3⟩
    unfold forD
    rw [e1]
    rcases e2 with e2 | e2
    · simp only [Option.bind_some, e2, afterO_nx]; exact e3
    · simp only [Option.bind_some, e2, afterO_ct]; exact e3
theorem forD_run {gt : D → Env → Option Env} {g : Env → Option Out} {Sg : Type} (st : Sg → Env) (P : List D → Sg → Prop) (items : List D) (s : Sg) (h0 : P [] s)
    (step : ∀ pre d post s, items = pre ++ d :: post → P pre s → ∃ ρ1 s', gt d (st s) = some ρ1 ∧ (g ρ1 = some (.nx (st s')) ∨ g ρ1 = some (.ct (st s'))) ∧ P (pre ++ [d]) s') :
    ∃ s', forD gt g items (st s) = some (.nx (st s')) ∧ P items s' := forD_inv st P items step [] items s rfl h0
/-- .. over things that are coded -/
theorem forD_map {gt : D → Env → Option Env} {g : Env → Option Out} {Sg α : Type} (c : α → D) (st : Sg → Env) (P : List α → Sg → Prop) (xs : List α)
    (step : ∀ pre x post s, xs = pre ++ x :: post → P pre s → ∃ ρ1 s', gt (c x) (st s) = some ρ1 ∧ (g ρ1 = some (.nx (st s')) ∨ g ρ1 = some (.ct (st s'))) ∧ P (pre ++ [x]) s') :
    ∀ pre post s, xs = pre ++ post → P pre s → ∃ s', forD gt g (post.map c) (st s) = some (.nx (st s')) ∧ P xs s'
  | pre, [], s, e, p => ⟨s, rfl, by rw [e, List.append_nil]; exact p⟩
  | pre, d :: post, s, e, p => by
    obtain ⟨ρ1, s1, e1, e2, p1⟩ := step pre d post s e p
    obtain ⟨s', e3, p3⟩ := forD_map c st P xs step (pre ++ [d]) post s1 (by rw [e]; simp) p1
    refine ⟨s', ?_, p3⟩
    rw [List.map_cons]
    unfold forD
    rw [e1]
    rcases e2 with e2 | e2
    · simp only [Option.bind_some, e2, afterO_nx]; exact e3
    · simp only [Option.bind_some, e2, afterO_ct]; exact e3
theorem for_map {gt : D → Env → Option Env} {g : Env → Option Out} {Sg α : Type} (c : α → D) (st : Sg → Env) (P : List α → Sg → Prop) (xs : List α) (s : Sg) (h0 : P [] s)
    (step : ∀ pre x post s, xs = pre ++ x :: post → P pre s → ∃ ρ1 s', gt (c x) (st s) = some ρ1 ∧ (g ρ1 = some (.nx (st s')) ∨ g ρ1 = some (.ct (st s'))) ∧ P (pre ++ [x]) s') :
    ∃ s', forD gt g (xs.map c) (st s) = some (.nx (st s')) ∧ P xs s' := forD_map c st P xs step [] xs s rfl h0
/-- a loop's states, one after another, by a function -/
theorem for_fold {gt : D → Env → Option Env} {g : Env → Option Out} {Sg α : Type} (c : α → D) (st : Sg → Env) (f : Sg → α → Sg)
    (step : ∀ x s, ∃ ρ1, gt (c x) (st s) = some ρ1 ∧ g ρ1 = some (.nx (st (f s x)))) : ∀ (xs : List α) (s : Sg), forD gt g (xs.map c) (st s) = some (.nx (st (xs.foldl f s)))
  | [], s => rfl
  | x :: xs, s => by
    obtain ⟨ρ1, e1, e2⟩ := step x s
    rw [List.map_cons]
    unfold forD
    rw [e1]
    simp only [Option.bind_some, e2, afterO_nx, List.foldl_cons]
    exact for_fold c st f step xs (f s x)
/-- a search: the first that is found ends the loop -/
theorem for_find {gt : D → Env → Option Env} {g : Env → Option Out} {α : Type} (c : α → D) (J : Env → Prop) (p : α → Bool) (out : α → Ret) :
    ∀ (xs : List α) (_ : ∀ x ∈ xs, ∀ ρ, J ρ → ∃ ρ1, gt (c x) ρ = some ρ1 ∧ (p x = true → g ρ1 = some (.rt (out x))) ∧ (p x = false → ∃ ρ2, g ρ1 = some (.nx ρ2) ∧ J ρ2)) (ρ : Env), J ρ →
      (∃ x, xs.find? p = some x ∧ forD gt g (xs.map c) ρ = some (.rt (out x))) ∨ (xs.find? p = none ∧ ∃ ρ2, forD gt g (xs.map c) ρ = some (.nx ρ2) ∧ J ρ2)
  | [], _, ρ, j => .inr ⟨rfl, ρ, rfl, j⟩
  | x :: xs, h, ρ, j => by
    obtain ⟨ρ1, e1, e2, e3⟩ := h x List.mem_cons_self ρ j
    rw [List.map_cons]
    unfold forD
    rw [e1]
    cases hp : p x with
    | true =>
      refine .inl ⟨x, by simp [List.find?, hp], ?_⟩
      simp only [Option.bind_some, e2 hp, afterO_rt]
    | false =>
      obtain ⟨ρ2, e4, j2⟩ := e3 hp
      simp only [Option.bind_some, e4, afterO_nx, List.find?, hp]
      exact for_find c J p out xs (fun y hy => h y (List.mem_cons_of_mem _ hy)) ρ2 j2

/-! ### comprehensions -/
theorem lcAll_map {α : Type} (c : α → D) {item : D → Option (Option D)} {f : α → D} : ∀ {xs : List α}, (∀ x ∈ xs, item (c x) = some (some (f x))) → lcAll item (xs.map c) = some (xs.map f)
  | [], _ => rfl
  | x :: xs, h => by
    rw [List.map_cons]
    unfold lcAll
    rw [h x List.mem_cons_self, lcAll_map c (f := f) fun y hy => h y (List.mem_cons_of_mem _ hy)]
    rfl
theorem lcAll_filter {α : Type} (c : α → D) {item : D → Option (Option D)} {p : α → Bool} {f : α → D} : ∀ {xs : List α}, (∀ x ∈ xs, item (c x) = some (if p x = true then some (f x) else none)) → lcAll item (xs.map c) = some ((xs.filter p).map f)
  | [], _ => rfl
  | x :: xs, h => by
    rw [List.map_cons]
    unfold lcAll
    rw [h x List.mem_cons_self, lcAll_filter c (p := p) (f := f) fun y hy => h y (List.mem_cons_of_mem _ hy)]
    cases hp : p x <;> simp [List.filter, hp]
theorem lc_map {α : Type} (c : α → D) {vs : List Nat} {gt : D → Env → Option Env} {tt : Env → R Bool} {fe : Env → R D} {ρ : Env} {f : α → D} {xs : List α} (few : xs.length ≤ 16777216) (h : ∀ x ∈ xs, lcItem vs gt tt fe ρ (c x) = some (some (f x))) :
    lcF vs gt tt fe ρ (xs.map c) = some (xs.map f) := by
  unfold lcF
  rw [if_pos (show DL.few (xs.map c) from by unfold DL.few; simpa using few)]
  exact lcAll_map c h
theorem lc_filter {α : Type} (c : α → D) {vs : List Nat} {gt : D → Env → Option Env} {tt : Env → R Bool} {fe : Env → R D} {ρ : Env} {p : α → Bool} {f : α → D} {xs : List α} (few : xs.length ≤ 16777216) (h : ∀ x ∈ xs, lcItem vs gt tt fe ρ (c x) = some (if p x = true then some (f x) else none)) :
    lcF vs gt tt fe ρ (xs.map c) = some ((xs.filter p).map f) := by
  unfold lcF
  rw [if_pos (show DL.few (xs.map c) from by unfold DL.few; simpa using few)]
  exact lcAll_filter c h

/-! ### readings -/
@[simp] theorem calm_ok {α : Type} (a : α) : calm (.ok a) = some a := rfl
@[simp] theorem Ret_v_val (d : D) : Ret.v (.val d) = d := rfl
@[simp] theorem Ret_v_frl (d : List D) : Ret.v (.frl d) = .lst d := rfl
@[simp] theorem Ret_f_frl (d : List D) : Ret.f (.frl d) = some d := rfl
@[simp] theorem oItems_lst (xs : List D) : oItems (.lst xs) = some xs := rfl
@[simp] theorem oItems_tup (xs : List D) : oItems (.tup xs) = some xs := rfl
@[simp] theorem oSeq_lst (xs : List D) : oSeq (.lst xs) = some (true, xs) := rfl
@[simp] theorem oSeq_tup (xs : List D) : oSeq (.tup xs) = some (false, xs) := rfl
@[simp] theorem oIx_lst (xs : List D) (i : Int) : oIx (.lst xs) (.int i) = atI xs i := rfl
@[simp] theorem oIx_tup (xs : List D) (i : Int) : oIx (.tup xs) (.int i) = atI xs i := rfl
@[simp] theorem oIx_scr (xs : List Int) (i : Int) : oIx (.scr xs) (.int i) = (atI xs i).map .int := rfl
@[simp] theorem oLen_lst (xs : List D) : oLen (.lst xs) = some (.int xs.length) := rfl
@[simp] theorem oLen_tup (xs : List D) : oLen (.tup xs) = some (.int xs.length) := rfl
@[simp] theorem oLen_scr (xs : List Int) : oLen (.scr xs) = some (.int xs.length) := rfl
@[simp] theorem cInt_int (p : Int → Int → Bool) (i j : Int) : cInt p (.int i) (.int j) = some (p i j) := rfl
@[simp] theorem oAdd_int (i j : Int) : oAdd (.int i) (.int j) = some (.int (i + j)) := rfl
@[simp] theorem oSub_int (i j : Int) : oSub (.int i) (.int j) = some (.int (i - j)) := rfl
theorem oMul_int {i j : Int} (h : (-(2 ^ 64) < i ∧ i < 2 ^ 64) ∨ (-(2 ^ 64) < j ∧ j < 2 ^ 64)) : oMul (.int i) (.int j) = some (.int (i * j)) := by
  show (if _ then _ else _) = _
  rw [if_pos h]
theorem oDiv_int {i j : Int} (h : 0 < j ∧ j < 1073741824) : oDiv (.int i) (.int j) = some (.int (i / j)) := by
  show (if _ then _ else _) = _
  rw [if_pos h]
theorem oMod_int {i j : Int} (h : 0 < j) : oMod (.int i) (.int j) = some (.int (i % j)) := by
  show (if _ then _ else _) = _
  rw [if_pos h]
theorem oIx_ix {xs : List D} {i : Int} {k : Nat} {d : D} (h : i = (k : Int)) (e : xs[k]? = some d) : atI xs i = some d := by rw [h, atI_ofNat, e]
theorem oPow_10_18 : oPow (.int 10) (.int 18) = some (.int 1000000000000000000) := rfl
@[simp] theorem oInt_int (i : Int) : oInt (.int i) = some (.int i) := rfl
@[simp] theorem oTuple_lst (xs : List D) : oTuple (.lst xs) = some (.tup xs) := rfl
@[simp] theorem oTuple_tup (xs : List D) : oTuple (.tup xs) = some (.tup xs) := rfl
@[simp] theorem oList_lst (xs : List D) : oList (.lst xs) = some xs := rfl
@[simp] theorem oList_tup (xs : List D) : oList (.tup xs) = some xs := rfl
@[simp] theorem oBl_bl (b : Bool) : oBl (.bl b) = some b := rfl
@[simp] theorem oNot_bl (b : Bool) : oNot (.bl b) = some (.bl (!b)) := rfl
@[simp] theorem oSlL_lst (xs : List D) (l u : Option Int) : oSlL (.lst xs) l u = some (cut xs l u) := rfl
@[simp] theorem oSlL_scr (xs : List Int) (l u : Option Int) : oSlL (.scr xs) l u = some ((cut xs l u).map .int) := rfl
@[simp] theorem oSlT_tup (xs : List D) (l u : Option Int) : oSlT (.tup xs) l u = some (.tup (cut xs l u)) := rfl
@[simp] theorem oSlR_tup (xs : List D) (l u : Option Int) : oSlR (.tup xs) l u = some (.tup (cut xs l u)) := rfl
@[simp] theorem oSlR_lst (xs : List D) (l u : Option Int) : oSlR (.lst xs) l u = some (.lst (cut xs l u)) := rfl
@[simp] theorem oI_int (i : Int) : oI (.int i) = some (some i) := rfl
@[simp] theorem oAttr_obj (f n : Str) (fs : List (Str × D)) : oAttr f (.obj n fs) = fs.lookup f := rfl
theorem mkL_ok {xs : List D} (h : xs.length ≤ 16777216) : mkL xs = some xs := if_pos h
theorem oAll_bls (bs : List Bool) : oAll (.lst (bs.map .bl)) = some (.bl (bs.all id)) := by simp [oAll]
theorem oRg1_nat {n : Nat} (h : (n : Int) < 2 ^ 62) : oRg1 (.int n) = some ((List.range n).map fun (i : Nat) => .int (i : Int)) := by
  have e : oRg1 (.int n) = if -(2 ^ 62) ≤ (n : Int) ∧ (n : Int) < 2 ^ 62 then some ((List.range (n : Int).toNat).map fun i => D.int (0 + (i : Nat))) else none := rfl
  rw [e, if_pos ⟨by omega, h⟩, Int.toNat_natCast]
  simp only [Int.zero_add]
theorem cInS_lst (z : Str) (ws : List Str) : cInS (.str z) (.lst (ws.map .str)) = some (decide (z ∈ ws)) := by
  simp only [cInS, strs_map, Option.map_some, Option.some.injEq]
  rw [Bool.eq_iff_iff, List.any_eq_true, decide_eq_true_iff]
  exact ⟨fun ⟨x, h1, h2⟩ => by rw [← beq_iff_eq.mp h2]; exact h1, fun h => ⟨z, h, by simp⟩⟩
theorem cInS_tup (z : Str) (ws : List Str) : cInS (.str z) (.tup (ws.map .str)) = some (decide (z ∈ ws)) := cInS_lst z ws
theorem look_map {α : Type} (key : α → List Key) (val : α → D) {xs : List α} {x : α} (hx : x ∈ xs) (nd : (xs.map key).Nodup) : look (xs.map fun y => (key y, val y)) (key x) = some (val x) := by
  unfold look
  induction xs with
  | nil => cases hx
  | cons y ys ih =>
    rw [List.map_cons, List.find?_cons]
    by_cases h : key y = key x
    · simp only [h, decide_true, Option.map_some]
      rcases List.mem_cons.mp hx with rfl | hx
      · rfl
      · rw [List.map_cons, List.nodup_cons] at nd
        exact absurd (by rw [h]; exact List.mem_map_of_mem hx) nd.1
    · simp only [h, decide_false]
      rcases List.mem_cons.mp hx with rfl | hx
      · exact absurd rfl h
      · exact ih hx (by rw [List.map_cons, List.nodup_cons] at nd; exact nd.2)
/-! ### words -/
abbrev ALPHA : Str := "abcdefghijklmnopqrstuvwxyz"
/-- small letters alone -/
def Low (w : Str) : Prop := ∀ c ∈ w.cps.toList, 97 ≤ c ∧ c ≤ 122
theorem Low.ok {w : Str} (h : Low w) : PyData.strOk w = true := by
  unfold PyData.strOk
  rw [Array.all_eq_true_iff_forall_mem]
  intro c hc
  have := h c (by simpa using hc)
  exact decide_eq_true (by omega)
theorem Low.app {a b : Str} (ha : Low a) (hb : Low b) : Low (a ++ b) := fun c hc => by
  have e : (a ++ b).cps.toList = a.cps.toList ++ b.cps.toList := by show (a.cps ++ b.cps).toList = _; simp
  rw [e] at hc
  rcases List.mem_append.mp hc with h | h
  · exact ha c h
  · exact hb c h
theorem len_app (a b : Str) : (a ++ b).length = a.length + b.length := by
  show (a.cps ++ b.cps).size = _
  simp [Str.length]
theorem oAdd_str {a b : Str} (h : a.length + b.length ≤ 16777216) : oAdd (.str a) (.str b) = some (.str (a ++ b)) := if_pos h
theorem alpha_at : ∀ k : Fin 26, ALPHA.cps.toList[k.val]? = some (97 + k.val) := by decide +kernel
theorem alpha_len : ALPHA.length ≤ 16777216 := by decide +kernel
theorem alpha_ix {i : Int} (h0 : 0 ≤ i) (h1 : i < 26) : oIx (.str ALPHA) (.int i) = some (.str ⟨#[97 + i.toNat]⟩) := by
  have e : oIx (.str ALPHA) (.int i) = if ALPHA.length ≤ 16777216 then (atI ALPHA.cps.toList i).map fun c => D.str ⟨#[c]⟩ else none := rfl
  rw [e, if_pos alpha_len, atI_int h0, alpha_at ⟨i.toNat, by omega⟩]
  rfl
theorem low1 {i : Nat} (h : i < 26) : Low ⟨#[97 + i]⟩ := fun c hc => by
  simp at hc
  omega
theorem len1 (c : Nat) : (⟨#[c]⟩ : Str).length = 1 := rfl
structure WordsOk (n : Nat) (ws : List Str) : Prop where
  nd : ws.Nodup
  ne : 1 ≤ ws.length
  le : ws.length ≤ n
  word : ∀ w ∈ ws, Low w ∧ 1 ≤ w.length ∧ w.length ≤ 8

/-! ### programs -/
abbrev dN (n : Nat) : D := .int (n : Int)
abbrev Tri := Str × Str × Nat
abbrev Ky := Nat × Str × Nat
structure Rul where
  st : Nat
  nm : Str
  pos : Nat
  tg : Nat
  src : List Nat
  outs : List Tri
abbrev Rul.key (r : Rul) : Ky := (r.st, r.nm, r.pos)
structure Prog where
  names : List Str
  chs : List (Str × List Str)
  sts : List Nat
  rules : List Rul
abbrev triD (t : Tri) : D := .tup [.str t.1, .str t.2.1, dN t.2.2]
abbrev chD (c : Str × List Str) : D := .tup [.str c.1, .tup (c.2.map .str)]
abbrev keyD (k : Ky) : D := .tup [dN k.1, .str k.2.1, dN k.2.2]
abbrev rulD (r : Rul) : D := .tup [dN r.st, .str r.nm, dN r.pos, dN r.tg, .tup (r.src.map dN), .tup (r.outs.map triD)]
def candN (k pos : Nat) : Nat := if pos % 2 = 1 then k else k + 1
def ksAt (names : List Str) (k : Nat) (s : Nat) : List Ky := names.flatMap fun nm => (List.range (2 * k + 1)).map fun p => (s, nm, p)
/-- the keys of the states from s on -/
def keysFrom (names : List Str) : Nat → List Nat → List Ky
  | _, [] => []
  | s, k :: r => ksAt names k s ++ keysFrom names (s + 1) r
abbrev keysOf (names : List Str) (sts : List Nat) : List Ky := keysFrom names 0 sts
structure SrcOk (cand many : Nat) (src : List Nat) : Prop where
  asc : src.Pairwise (· < ·)
  lt : ∀ s ∈ src, s < cand
  len : src.length = many
structure OutsOk (chs : List (Str × List Str)) (cand : Nat) (outs : List Tri) : Prop where
  le : outs.length ≤ 3
  ok : ∀ o ∈ outs, (∃ c ∈ chs, o.1 = c.1 ∧ o.2.1 ∈ c.2) ∧ o.2.2 < cand
structure RulOk (chs : List (Str × List Str)) (sts : List Nat) (r : Rul) : Prop where
  ex : ∃ k t, sts[r.st]? = some k ∧ sts[r.tg]? = some t ∧ r.pos < 2 * k + 1 ∧ SrcOk (candN k r.pos) t r.src ∧ OutsOk chs (candN k r.pos) r.outs
structure StsOk (sts : List Nat) : Prop where
  le : sts.length ≤ 10
  zero : sts[0]? = some 0
  four : ∀ k ∈ sts, k ≤ 4
structure ChsOk (chs : List (Str × List Str)) : Prop where
  names : WordsOk 2 (chs.map (·.1))
  signals : ∀ c ∈ chs, WordsOk 4 c.2
structure ProgOk (p : Prog) : Prop where
  names : WordsOk 4 p.names
  chs : ChsOk p.chs
  sts : StsOk p.sts
  keys : p.rules.map Rul.key = keysOf p.names p.sts
  rules : ∀ r ∈ p.rules, RulOk p.chs p.sts r
abbrev Prog.names' (p : Prog) : List D := p.names.map .str
abbrev Prog.chs' (p : Prog) : List D := p.chs.map chD
abbrev Prog.sts' (p : Prog) : List D := p.sts.map dN
abbrev Prog.rules' (p : Prog) : List D := p.rules.map rulD
/-- a row: a list or a tuple -/
def IsRow (c : D) (xs : List D) : Prop := c = .lst xs ∨ c = .tup xs
theorem IsRow.ix {c : D} {xs : List D} (h : IsRow c xs) (i : Int) : oIx c (.int i) = atI xs i := by rcases h with rfl | rfl <;> rfl
theorem IsRow.len {c : D} {xs : List D} (h : IsRow c xs) : oLen c = some (.int xs.length) := by rcases h with rfl | rfl <;> rfl
theorem IsRow.items {c : D} {xs : List D} (h : IsRow c xs) : oItems c = some xs := by rcases h with rfl | rfl <;> rfl
theorem IsRow.row {c : D} {xs : List D} (h : IsRow c xs) : rowOf c = some xs := by rcases h with rfl | rfl <;> rfl
theorem IsRow.tuple {c : D} {xs : List D} (h : IsRow c xs) : oTuple c = some (.tup xs) := by rcases h with rfl | rfl <;> rfl
theorem IsRow.list {c : D} {xs : List D} (h : IsRow c xs) : oList c = some xs := by rcases h with rfl | rfl <;> rfl
theorem at_map {α : Type} {f : α → D} {xs : List α} {i : Int} {k : Nat} {x : α} (hi : i = (k : Int)) (h : xs[k]? = some x) : atI (xs.map f) i = some (f x) := by
  rw [hi, atI_ofNat, List.getElem?_map, h]; rfl
/-- an index by a remainder is there -/
theorem at_mod {α : Type} {f : α → D} {xs : List α} (i : Int) (h : 0 < xs.length) : ∃ x ∈ xs, atI (xs.map f) (i % (xs.length : Int)) = some (f x) ∧ ∃ k : Nat, i % (xs.length : Int) = (k : Int) ∧ xs[k]? = some x := by
  have h0 : 0 ≤ i % (xs.length : Int) := Int.emod_nonneg _ (by omega)
  have h1 : i % (xs.length : Int) < xs.length := Int.emod_lt_of_pos _ (by omega)
  have hk : (i % (xs.length : Int)).toNat < xs.length := by omega
  have e : i % (xs.length : Int) = (((i % (xs.length : Int)).toNat : Nat) : Int) := by omega
  exact ⟨xs[(i % (xs.length : Int)).toNat], List.getElem_mem hk, at_map e (List.getElem?_eq_getElem hk), _, e, List.getElem?_eq_getElem hk⟩
theorem ksAt_len' {k s : Nat} (hk : k ≤ 4) : ∀ names : List Str, (ksAt names k s).length ≤ 9 * names.length
  | [] => by simp [ksAt]
  | a :: r => by
    have ih := ksAt_len' (k := k) (s := s) hk r
    unfold ksAt at ih ⊢
    rw [List.flatMap_cons, List.length_append, List.length_map, List.length_range, List.length_cons]
    omega
theorem ksAt_len {names : List Str} {k s : Nat} (h : names.length ≤ 4) (hk : k ≤ 4) : (ksAt names k s).length ≤ 36 := by
  have := ksAt_len' (s := s) hk names
  omega
theorem four_of {row : List Int} {j : Nat} (h : j + 4 ≤ row.length) (hr : ∀ x ∈ row, 0 ≤ x ∧ x < 840) : ∃ d0 d1 d2 d3 : Int, (row.drop j).take 4 = [d0, d1, d2, d3] ∧ 0 ≤ d0 ∧ 0 ≤ d1 ∧ 0 ≤ d2 ∧ 0 ≤ d3 := by
  have hl : ((row.drop j).take 4).length = 4 := by simp; omega
  have sub : ∀ x ∈ (row.drop j).take 4, 0 ≤ x := fun x hx => (hr x (List.mem_of_mem_drop (List.mem_of_mem_take hx))).1
  generalize (row.drop j).take 4 = l at hl sub
  match l, hl with
  | [d0, d1, d2, d3], _ => exact ⟨d0, d1, d2, d3, rfl, sub d0 (by simp), sub d1 (by simp), sub d2 (by simp), sub d3 (by simp)⟩
theorem keysFrom_len (names : List Str) : ∀ (sts : List Nat) (s : Nat), (keysFrom names s sts).length = names.length * (sts.map fun k => 2 * k + 1).sum
  | [], s => by simp [keysFrom]
  | k :: r, s => by
    have e : ∀ names : List Str, (ksAt names k s).length = names.length * (2 * k + 1) := fun names => by
      induction names with
      | nil => simp [ksAt]
      | cons a t ih =>
        unfold ksAt at ih ⊢
        rw [List.flatMap_cons, List.length_append, ih, List.length_map, List.length_range, List.length_cons, Nat.add_mul, Nat.one_mul, Nat.add_comm]
    simp only [keysFrom, List.length_append, keysFrom_len names r (s + 1), e, List.map_cons, List.sum_cons, Nat.mul_add]
theorem ksAt_mem {names : List Str} {k s : Nat} {key : Ky} (h : key ∈ ksAt names k s) : key.1 = s ∧ key.2.1 ∈ names ∧ key.2.2 < 2 * k + 1 := by
  unfold ksAt at h
  obtain ⟨nm, h1, h2⟩ := List.mem_flatMap.mp h
  obtain ⟨p, h3, rfl⟩ := List.mem_map.mp h2
  exact ⟨rfl, h1, by simpa using h3⟩
theorem keysFrom_mem {names : List Str} {key : Ky} : ∀ {sts : List Nat} {s : Nat}, key ∈ keysFrom names s sts → ∃ i k, key.1 = s + i ∧ sts[i]? = some k ∧ key.2.1 ∈ names ∧ key.2.2 < 2 * k + 1
  | k :: r, s, h => by
    rcases List.mem_append.mp (show key ∈ ksAt names k s ++ keysFrom names (s + 1) r from h) with h | h
    · obtain ⟨h1, h2, h3⟩ := ksAt_mem h
      exact ⟨0, k, h1, rfl, h2, h3⟩
    · obtain ⟨i, k', h1, h2, h3, h4⟩ := keysFrom_mem h
      exact ⟨i + 1, k', by omega, h2, h3, h4⟩
/-- the states that keep at most so many -/
abbrev fits (sts : List Nat) (cand : Nat) : List Nat := (List.range sts.length).filter fun j => decide (sts.getD j 0 ≤ cand)
theorem fits_pos {sts : List Nat} (h : StsOk sts) (cand : Nat) : 0 < (fits sts cand).length := by
  have h0 : 0 < sts.length := (List.getElem?_eq_some_iff.mp h.zero).1
  have : 0 ∈ fits sts cand := by
    refine List.mem_filter.mpr ⟨by simpa using h0, ?_⟩
    have := h.zero
    simp only [List.getD, this, Option.getD_some]
    exact decide_eq_true (Nat.zero_le _)
  exact List.length_pos_of_mem this
theorem fits_mem {sts : List Nat} {cand j : Nat} (h : j ∈ fits sts cand) : ∃ t, sts[j]? = some t ∧ t ≤ cand := by
  obtain ⟨h1, h2⟩ := List.mem_filter.mp h
  have hj : j < sts.length := by simpa using h1
  refine ⟨sts[j], List.getElem?_eq_getElem hj, ?_⟩
  have h2 := of_decide_eq_true h2
  simpa [List.getD, List.getElem?_eq_getElem hj] using h2
theorem cand_int (k p : Nat) : (k : Int) + 1 - (p : Int) % 2 = ((candN k p : Nat) : Int) := by
  unfold candN
  split <;> omega
theorem cand_pos {k p : Nat} (h : p < 2 * k + 1) : 0 < candN k p := by
  unfold candN
  split <;> omega
theorem cand_le {k p : Nat} (h : k ≤ 4) : candN k p ≤ 5 := by
  unfold candN
  split <;> omega
theorem isB1_lst (xs : List D) (n : String) (b : Bool) (h : kitB "list" n = some b) : isB1 n (.lst xs) = some b := h
theorem isRow_lst (xs : List D) : isBs ["list", "tuple"] (.lst xs) = some true := by
  show (isB1 "list" (.lst xs)).bind _ = _
  rw [isB1_lst xs "list" true (by decide +kernel)]; rfl
theorem isRow_tup (xs : List D) : isBs ["list", "tuple"] (.tup xs) = some true := by
  show (isB1 "list" (.tup xs)).bind _ = _
  have h1 : isB1 "list" (.tup xs) = some false := show kitB "tuple" "list" = some false by decide +kernel
  have h2 : isB1 "tuple" (.tup xs) = some true := show kitB "tuple" "tuple" = some true by decide +kernel
  rw [h1]
  show (isB1 "tuple" (.tup xs)).bind _ = _
  rw [h2]; rfl
theorem isInt_int (i : Int) : isB1 "int" (.int i) = some true := show kitB "int" "int" = some true by decide +kernel
theorem isBool_int (i : Int) : isB1 "bool" (.int i) = some false := show kitB "int" "bool" = some false by decide +kernel
theorem isStr_str (x : Str) : isB1 "str" (.str x) = some true := show kitB "str" "str" = some true by decide +kernel
theorem isTuple_tup (xs : List D) : isB1 "tuple" (.tup xs) = some true := show kitB "tuple" "tuple" = some true by decide +kernel
theorem isList_lst (xs : List D) : isB1 "list" (.lst xs) = some true := show kitB "list" "list" = some true by decide +kernel
theorem cInC_low {c : Nat} (h : 97 ≤ c ∧ c ≤ 122) : cInC (.str ⟨#[c]⟩) (.str ALPHA) = some true := by
  have e : ∀ k : Fin 26, (97 + k.val) ∈ ALPHA.cps.toList := by decide +kernel
  have e2 := e ⟨c - 97, by omega⟩
  show some (decide (c ∈ ALPHA.cps.toList)) = _
  rw [decide_eq_true]
  have : 97 + (c - 97) = c := by omega
  simpa [this] using e2
theorem zip2_map {α β : Type} (f : α → D) (g : β → D) : ∀ (xs : List α) (ys : List β), zip2 (xs.map f) (ys.map g) = (xs.zip ys).map fun p => .tup [f p.1, g p.2]
  | [], _ => by simp [zip2]
  | _ :: _, [] => by simp [zip2]
  | x :: xs, y :: ys => by simp [zip2, zip2_map f g xs ys]
theorem asc_zip {α : Type} {r : α → α → Prop} : ∀ {xs : List α}, xs.Pairwise r → ∀ p ∈ xs.zip (xs.drop 1), r p.1 p.2
  | [], _, p, hp => by simp at hp
  | [x], _, p, hp => by simp at hp
  | x :: y :: r', h, p, hp => by
    rw [List.drop_succ_cons, List.drop_zero, List.zip_cons_cons] at hp
    rcases List.mem_cons.mp hp with rfl | hp
    · exact (List.pairwise_cons.mp h).1 _ List.mem_cons_self
    · exact asc_zip (List.pairwise_cons.mp h).2 p (by simpa using hp)
theorem dcnt_nodup {ws : List Str} (h : ws.Nodup) : ∀ i, i ≤ ws.length → dcnt ws i = i
  | 0, _ => rfl
  | i + 1, hi => by
    unfold dcnt
    have ih := dcnt_nodup h i (by omega)
    have hn : ¬ (ws.take i).any (· == ws.getD i Str.empty) = true := by
      intro hc
      obtain ⟨x, hx, he⟩ := List.any_eq_true.mp hc
      have he := beq_iff_eq.mp he
      have hii : i < ws.length := by omega
      rw [show ws.getD i Str.empty = ws[i] by simp [List.getD, List.getElem?_eq_getElem hii]] at he
      obtain ⟨j, hj, ej⟩ := List.mem_iff_getElem.mp hx
      rw [List.getElem_take] at ej
      have hj' : j < i := by simp at hj; omega
      exact (List.pairwise_iff_getElem.mp h) j i (by omega) hii hj' (ej.trans he)
    rw [if_neg hn, ih]
theorem lenSet_ok {c : D} {ws : List Str} (hc : IsRow c (ws.map .str)) (h : ws.Nodup) (hl : ws.length < 4000) : oLenSet c = some (.int ws.length) := by
  have e : oStrs c = some ws := by rcases hc with rfl | rfl <;> simp [oStrs, oSeq]
  unfold oLenSet
  rw [e]
  simp only [Option.bind_some, hl, if_true, dcnt_nodup h _ (Nat.le_refl _)]
theorem all_true {α : Type} (xs : List α) : oAll (.lst (xs.map fun _ => D.bl true)) = some (.bl true) := by
  rw [show (xs.map fun _ => D.bl true) = (xs.map fun _ => true).map D.bl by simp, oAll_bls]
  simp
def keyK (k : Ky) : List Key := [Sum.inl (k.1 : Int), Sum.inr k.2.1, Sum.inl (k.2.2 : Int)]
theorem keyK_inj {a b : Ky} (h : keyK a = keyK b) : a = b := by
  unfold keyK at h
  obtain ⟨a1, a2, a3⟩ := a
  obtain ⟨b1, b2, b3⟩ := b
  simp only [List.cons.injEq, Sum.inl.injEq, Sum.inr.injEq, and_true] at h
  obtain ⟨h1, h2, h3⟩ := h
  rw [h2, show a1 = b1 by omega, show a3 = b3 by omega]
theorem keyD_key (k : Ky) : keys? [dN k.1, .str k.2.1, dN k.2.2] = some (keyK k) := rfl
theorem ksAt_nodup {names : List Str} (hn : names.Nodup) (k s : Nat) : (ksAt names k s).Nodup := by
  unfold ksAt
  induction names with
  | nil => simp
  | cons a r ih =>
    rw [List.flatMap_cons, List.nodup_append]
    rw [List.nodup_cons] at hn
    refine ⟨?_, ih hn.2, ?_⟩
    · rw [List.nodup_iff_pairwise_ne, List.pairwise_map]
      exact List.pairwise_lt_range.imp fun h e => by simp only [Prod.mk.injEq, true_and] at e; omega
    · intro x hx y hy e
      obtain ⟨p, _, rfl⟩ := List.mem_map.mp hx
      obtain ⟨nm, h1, h2⟩ := List.mem_flatMap.mp hy
      obtain ⟨q, _, rfl⟩ := List.mem_map.mp h2
      simp only [Prod.mk.injEq, true_and] at e
      exact hn.1 (e.1 ▸ h1)
theorem keysFrom_nodup {names : List Str} (hn : names.Nodup) : ∀ (sts : List Nat) (s : Nat), (keysFrom names s sts).Nodup
  | [], s => by simp [keysFrom]
  | k :: r, s => by
    show (ksAt names k s ++ keysFrom names (s + 1) r).Nodup
    rw [List.nodup_append]
    refine ⟨ksAt_nodup hn k s, keysFrom_nodup hn r (s + 1), fun x hx y hy e => ?_⟩
    have h1 := (ksAt_mem hx).1
    obtain ⟨i, k', h2, _⟩ := keysFrom_mem hy
    rw [← e] at h2
    omega
/-- an instance whose attributes tell of the parts -/
structure Fields (fs : List (Str × D)) (names : List Str) (chs : List (Str × List Str)) (sts : List Nat) : Prop where
  names : fs.lookup ("names" : Str) = some (.tup (names.map .str))
  chs : fs.lookup ("channels" : Str) = some (.tup (chs.map chD))
  sts : fs.lookup ("states" : Str) = some (.tup (sts.map dN))
theorem enumD_map {α : Type} (f : α → D) : ∀ (k : Nat) (xs : List α), enumD k (xs.map f) = (xs.zipIdx k).map fun p => .tup [.int (p.2 : Nat), f p.1]
  | _, [] => rfl
  | k, x :: xs => by simp [enumD, enumD_map f (k + 1) xs]
theorem lcN_flat {α : Type} (c : α → D) {gt : D → Env → Option Env} {fin : Env → Option (List D)} {ρ : Env} {f : α → List D} : ∀ {xs : List α}, (∀ x ∈ xs, ((gt (c x) ρ).bind fun ρ1 => fin ρ1) = some (f x)) → lcN gt bYes fin ρ (xs.map c) = some (xs.flatMap f)
  | [], _ => rfl
  | x :: xs, h => by
    have h1 := h x List.mem_cons_self
    have ih := lcN_flat c (f := f) fun y hy => h y (List.mem_cons_of_mem _ hy)
    obtain ⟨ρ1, e1, e2⟩ := Option.bind_eq_some_iff.mp h1
    rw [List.map_cons]
    unfold lcN
    rw [e1, ih]
    simp only [Option.bind_some, calm, if_true, e2, Option.map_some, List.flatMap_cons]
theorem look_table {rules : List Rul} (nd : (rules.map Rul.key).Nodup) {r : Rul} (h : r ∈ rules) : look (rules.map fun r => (keyK r.key, rulD r)) (keyK r.key) = some (rulD r) := by
  refine look_map (fun r => keyK r.key) rulD h ?_
  rw [show (fun r : Rul => keyK r.key) = keyK ∘ Rul.key from rfl, ← List.map_map]
  exact (List.nodup_iff_pairwise_ne.mpr (List.pairwise_map.mpr ((List.nodup_iff_pairwise_ne.mp nd).imp fun h e => h (keyK_inj e))))
theorem look_none {rules : List Rul} {k : Ky} (h : k ∉ rules.map Rul.key) : look (rules.map fun r => (keyK r.key, rulD r)) (keyK k) = none := by
  unfold look
  rw [Option.map_eq_none_iff, List.find?_eq_none]
  intro x hx
  obtain ⟨r, hr, rfl⟩ := List.mem_map.mp hx
  simp only [decide_eq_true_eq]
  intro e
  exact h (List.mem_map.mpr ⟨r, hr, keyK_inj e⟩)
theorem cInD_tup (k0 : D) (ks : List D) (kvs : List (List Key × D)) : cInD (.tup (k0 :: ks)) (.dct kvs) = (keys? (k0 :: ks)).map fun k => (look kvs k).isSome := rfl
theorem oGet_tup (k0 : D) (ks : List D) (kvs : List (List Key × D)) : oGet (.dct kvs) (.tup (k0 :: ks)) = (keys? (k0 :: ks)).bind (look kvs) := rfl
theorem bq_names_channels : (Str.ofString "names" == Str.ofString "channels") = false := by decide +kernel
theorem ne_names_channels : (Str.ofString "names" = Str.ofString "channels") = False := eq_false (by decide +kernel)
theorem bq_names_states : (Str.ofString "names" == Str.ofString "states") = false := by decide +kernel
theorem ne_names_states : (Str.ofString "names" = Str.ofString "states") = False := eq_false (by decide +kernel)
theorem bq_names_table : (Str.ofString "names" == Str.ofString "table") = false := by decide +kernel
theorem ne_names_table : (Str.ofString "names" = Str.ofString "table") = False := eq_false (by decide +kernel)
theorem bq_names_rules : (Str.ofString "names" == Str.ofString "rules") = false := by decide +kernel
theorem ne_names_rules : (Str.ofString "names" = Str.ofString "rules") = False := eq_false (by decide +kernel)
theorem bq_channels_names : (Str.ofString "channels" == Str.ofString "names") = false := by decide +kernel
theorem ne_channels_names : (Str.ofString "channels" = Str.ofString "names") = False := eq_false (by decide +kernel)
theorem bq_channels_states : (Str.ofString "channels" == Str.ofString "states") = false := by decide +kernel
theorem ne_channels_states : (Str.ofString "channels" = Str.ofString "states") = False := eq_false (by decide +kernel)
theorem bq_channels_table : (Str.ofString "channels" == Str.ofString "table") = false := by decide +kernel
theorem ne_channels_table : (Str.ofString "channels" = Str.ofString "table") = False := eq_false (by decide +kernel)
theorem bq_channels_rules : (Str.ofString "channels" == Str.ofString "rules") = false := by decide +kernel
theorem ne_channels_rules : (Str.ofString "channels" = Str.ofString "rules") = False := eq_false (by decide +kernel)
theorem bq_states_names : (Str.ofString "states" == Str.ofString "names") = false := by decide +kernel
theorem ne_states_names : (Str.ofString "states" = Str.ofString "names") = False := eq_false (by decide +kernel)
theorem bq_states_channels : (Str.ofString "states" == Str.ofString "channels") = false := by decide +kernel
theorem ne_states_channels : (Str.ofString "states" = Str.ofString "channels") = False := eq_false (by decide +kernel)
theorem bq_states_table : (Str.ofString "states" == Str.ofString "table") = false := by decide +kernel
theorem ne_states_table : (Str.ofString "states" = Str.ofString "table") = False := eq_false (by decide +kernel)
theorem bq_states_rules : (Str.ofString "states" == Str.ofString "rules") = false := by decide +kernel
theorem ne_states_rules : (Str.ofString "states" = Str.ofString "rules") = False := eq_false (by decide +kernel)
theorem bq_table_names : (Str.ofString "table" == Str.ofString "names") = false := by decide +kernel
theorem ne_table_names : (Str.ofString "table" = Str.ofString "names") = False := eq_false (by decide +kernel)
theorem bq_table_channels : (Str.ofString "table" == Str.ofString "channels") = false := by decide +kernel
theorem ne_table_channels : (Str.ofString "table" = Str.ofString "channels") = False := eq_false (by decide +kernel)
theorem bq_table_states : (Str.ofString "table" == Str.ofString "states") = false := by decide +kernel
theorem ne_table_states : (Str.ofString "table" = Str.ofString "states") = False := eq_false (by decide +kernel)
theorem bq_table_rules : (Str.ofString "table" == Str.ofString "rules") = false := by decide +kernel
theorem ne_table_rules : (Str.ofString "table" = Str.ofString "rules") = False := eq_false (by decide +kernel)
theorem bq_rules_names : (Str.ofString "rules" == Str.ofString "names") = false := by decide +kernel
theorem ne_rules_names : (Str.ofString "rules" = Str.ofString "names") = False := eq_false (by decide +kernel)
theorem bq_rules_channels : (Str.ofString "rules" == Str.ofString "channels") = false := by decide +kernel
theorem ne_rules_channels : (Str.ofString "rules" = Str.ofString "channels") = False := eq_false (by decide +kernel)
theorem bq_rules_states : (Str.ofString "rules" == Str.ofString "states") = false := by decide +kernel
theorem ne_rules_states : (Str.ofString "rules" = Str.ofString "states") = False := eq_false (by decide +kernel)
theorem bq_rules_table : (Str.ofString "rules" == Str.ofString "table") = false := by decide +kernel
theorem ne_rules_table : (Str.ofString "rules" = Str.ofString "table") = False := eq_false (by decide +kernel)
def progFields (p : Prog) (rs : List Rul) : List (Str × D) := [("names", .tup (p.names.map .str)), ("channels", .tup (p.chs.map chD)), ("states", .tup (p.sts.map dN)), ("table", .dct (rs.map fun r => (keyK r.key, rulD r))), ("rules", .tup (p.rules.map rulD))]
def progD (p : Prog) (rs : List Rul) : D := .obj "Program" (progFields p rs)
theorem fields1 (names : List Str) (chs : List (Str × List Str)) (sts : List Nat) : Fields [("names", .tup (names.map .str)), ("channels", .tup (chs.map chD)), ("states", .tup (sts.map dN))] names chs sts :=
  ⟨by simp only [List.lookup_cons, beq_self_eq_true], by simp only [List.lookup_cons, beq_self_eq_true, bq_channels_names], by simp only [List.lookup_cons, beq_self_eq_true, bq_states_names, bq_states_channels]⟩
theorem fields2 (names : List Str) (chs : List (Str × List Str)) (sts : List Nat) (x : D) : Fields [("names", .tup (names.map .str)), ("channels", .tup (chs.map chD)), ("states", .tup (sts.map dN)), ("table", x)] names chs sts :=
  ⟨by simp only [List.lookup_cons, beq_self_eq_true], by simp only [List.lookup_cons, beq_self_eq_true, bq_channels_names], by simp only [List.lookup_cons, beq_self_eq_true, bq_states_names, bq_states_channels]⟩
theorem fieldsP (p : Prog) (rs : List Rul) : Fields (progFields p rs) p.names p.chs p.sts :=
  ⟨by simp only [progFields, List.lookup_cons, beq_self_eq_true], by simp only [progFields, List.lookup_cons, beq_self_eq_true, bq_channels_names], by simp only [progFields, List.lookup_cons, beq_self_eq_true, bq_states_names, bq_states_channels]⟩
theorem tableP (p : Prog) (rs : List Rul) : (progFields p rs).lookup ("table" : Str) = some (.dct (rs.map fun r => (keyK r.key, rulD r))) := by
  simp only [progFields, List.lookup_cons, beq_self_eq_true, bq_table_names, bq_table_channels, bq_table_states]
theorem rulesP (p : Prog) (rs : List Rul) : (progFields p rs).lookup ("rules" : Str) = some (.tup (p.rules.map rulD)) := by
  simp only [progFields, List.lookup_cons, beq_self_eq_true, bq_rules_names, bq_rules_channels, bq_rules_states, bq_rules_table]
theorem put1 (x y : D) : putD "channels" y [("names", x)] = ([("names", x), ("channels", y)] : List (Str × D)) := by simp only [putD, ne_names_channels, if_false]
theorem put2 (x y z : D) : putD "states" z [("names", x), ("channels", y)] = ([("names", x), ("channels", y), ("states", z)] : List (Str × D)) := by simp only [putD, ne_names_states, ne_channels_states, if_false]
theorem put3 (x y z w : D) : putD "table" w [("names", x), ("channels", y), ("states", z)] = ([("names", x), ("channels", y), ("states", z), ("table", w)] : List (Str × D)) := by simp only [putD, ne_names_table, ne_channels_table, ne_states_table, if_false]
theorem put4 (x y z w v : D) : putD "rules" v [("names", x), ("channels", y), ("states", z), ("table", w)] = ([("names", x), ("channels", y), ("states", z), ("table", w), ("rules", v)] : List (Str × D)) := by simp only [putD, ne_names_rules, ne_channels_rules, ne_states_rules, ne_table_rules, if_false]
theorem noObjs_map {α : Type} (f : α → D) : ∀ {xs : List α}, (∀ x ∈ xs, noObj (f x) = true) → noObjs (xs.map f) = true
  | [], _ => rfl
  | x :: xs, h => by
    rw [List.map_cons]
    simp only [noObjs, h x List.mem_cons_self, noObjs_map f fun y hy => h y (List.mem_cons_of_mem _ hy), Bool.and_self]
theorem noObj_rul (r : Rul) : noObj (rulD r) = true := by
  simp only [rulD, noObj, noObjs, noObjs_map dN (xs := r.src) fun _ _ => rfl, noObjs_map triD (xs := r.outs) fun _ _ => rfl, Bool.and_self, Bool.and_true]
theorem noObjK_map {α : Type} (k : α → List Key) (f : α → D) : ∀ {xs : List α}, (∀ x ∈ xs, noObj (f x) = true) → noObjK (xs.map fun x => (k x, f x)) = true
  | [], _ => rfl
  | x :: xs, h => by
    rw [List.map_cons]
    simp only [noObjK, h x List.mem_cons_self, noObjK_map k f fun y hy => h y (List.mem_cons_of_mem _ hy), Bool.and_self]

/-! ### one step -/
@[simp] theorem oAug_int (i j : Int) : oAug (.int i) (.int j) = some (.int (i + j)) := rfl
@[simp] theorem oSlR_scr (xs : List Int) (l u : Option Int) : oSlR (.scr xs) l u = some (.lst ((cut xs l u).map .int)) := rfl
def posN (n : Int) (kept : List Int) : Nat := 2 * (kept.filter fun v => decide (v < n)).length + (kept.filter fun v => v == n).length
/-- the candidates -/
def cands (n : Int) (kept : List Int) : List Int := (kept.filter fun v => decide (v < n)) ++ n :: (kept.filter fun v => decide (n < v))
theorem asc_split {n : Int} : ∀ {kept : List Int}, kept.Pairwise (· < ·) → kept = (kept.filter fun v => decide (v < n)) ++ ((kept.filter fun v => v == n) ++ (kept.filter fun v => decide (n < v)))
  | [], _ => rfl
  | v :: r, h => by
    obtain ⟨h1, h2⟩ := List.pairwise_cons.mp h
    have ih := asc_split (n := n) h2
    rcases Int.lt_trichotomy v n with hv | hv | hv
    · rw [List.filter_cons_of_pos (by simpa using hv), List.filter_cons_of_neg (by simp; omega), List.filter_cons_of_neg (by simp; omega), List.cons_append, ← ih]
    · have e1 : r.filter (fun x => decide (x < n)) = [] := List.filter_eq_nil_iff.mpr fun x hx => by have := h1 x hx; simp; omega
      rw [List.filter_cons_of_neg (by simp; omega), List.filter_cons_of_pos (by simpa using hv), List.filter_cons_of_neg (by simp; omega)]
      rw [e1, List.nil_append] at ih ⊢
      rw [List.cons_append, ← ih]
    · have e1 : r.filter (fun x => decide (x < n)) = [] := List.filter_eq_nil_iff.mpr fun x hx => by have := h1 x hx; simp; omega
      have e2 : r.filter (fun x => x == n) = [] := List.filter_eq_nil_iff.mpr fun x hx => by have := h1 x hx; simp; omega
      rw [List.filter_cons_of_neg (by simp; omega), List.filter_cons_of_neg (by simp; omega), List.filter_cons_of_pos (by simpa using hv)]
      rw [e1, e2, List.nil_append, List.nil_append] at ih ⊢
      rw [← ih]
theorem asc_eq {n : Int} : ∀ {kept : List Int}, kept.Pairwise (· < ·) → (kept.filter fun v => v == n) = [] ∨ (kept.filter fun v => v == n) = [n]
  | [], _ => .inl rfl
  | v :: r, h => by
    obtain ⟨h1, h2⟩ := List.pairwise_cons.mp h
    by_cases hv : v = n
    · subst hv
      have e2 : r.filter (fun x => x == v) = [] := List.filter_eq_nil_iff.mpr fun x hx => by have := h1 x hx; simp; omega
      exact .inr (by rw [List.filter_cons_of_pos (by simp), e2])
    · rw [List.filter_cons_of_neg (by simpa using hv)]
      exact asc_eq h2
theorem cands_asc {n : Int} {kept : List Int} (h : kept.Pairwise (· < ·)) : (cands n kept).Pairwise (· < ·) := by
  unfold cands
  rw [List.pairwise_append]
  refine ⟨h.filter _, List.pairwise_cons.mpr ⟨fun x hx => ?_, h.filter _⟩, fun x hx y hy => ?_⟩
  · exact of_decide_eq_true (List.mem_filter.mp hx).2
  · have h1 := of_decide_eq_true (List.mem_filter.mp hx).2
    rcases List.mem_cons.mp hy with rfl | hy
    · exact h1
    · have h2 := of_decide_eq_true (List.mem_filter.mp hy).2
      omega
/-- the position tells whether the integer is kept, and what the candidates are -/
theorem cands_odd {n : Int} {kept : List Int} (h : kept.Pairwise (· < ·)) (ho : posN n kept % 2 = 1) : cands n kept = kept := by
  unfold posN at ho
  rcases asc_eq (n := n) h with e | e
  · rw [e] at ho; simp at ho
  · have := asc_split (n := n) h
    rw [e] at this
    exact this.symm
theorem cands_even {n : Int} {kept : List Int} (h : kept.Pairwise (· < ·)) (ho : posN n kept % 2 = 0) : cands n kept = kept.take (posN n kept / 2) ++ [n] ++ kept.drop (posN n kept / 2) ∧ posN n kept / 2 ≤ kept.length := by
  have hs := asc_split (n := n) h
  rcases asc_eq (n := n) h with e | e
  · have hp : posN n kept / 2 = (kept.filter fun v => decide (v < n)).length := by unfold posN; rw [e]; simp
    rw [e, List.nil_append] at hs
    refine ⟨?_, ?_⟩
    · rw [hp]
      conv => rhs; rw [show kept.take (kept.filter fun v => decide (v < n)).length = kept.filter fun v => decide (v < n) by
        conv => lhs; arg 2; rw [hs]
        exact List.take_left' rfl]
      rw [show kept.drop (kept.filter fun v => decide (v < n)).length = kept.filter fun v => decide (n < v) by
        conv => lhs; arg 2; rw [hs]
        exact List.drop_left' rfl]
      unfold cands
      simp
    · rw [hp]; exact List.length_filter_le _ _
  · unfold posN at ho; rw [e] at ho; simp at ho
theorem cands_len {n : Int} {kept : List Int} (h : kept.Pairwise (· < ·)) : (cands n kept).length = candN kept.length (posN n kept) := by
  unfold candN
  split
  · rename_i ho; rw [cands_odd h ho]
  · rename_i ho
    obtain ⟨e, hl⟩ := cands_even (n := n) h (by omega)
    rw [e]
    simp
    omega
theorem posN_le {n : Int} {kept : List Int} (h : kept.Pairwise (· < ·)) : posN n kept < 2 * kept.length + 1 := by
  have hs := congrArg List.length (asc_split (n := n) h)
  rw [List.length_append, List.length_append] at hs
  unfold posN
  rcases asc_eq (n := n) h with e | e
  · simp only [e, List.length_nil] at hs ⊢; omega
  · simp only [e, List.length_cons, List.length_nil] at hs ⊢; omega
theorem posN_fold (n : Int) : ∀ (kept : List Int) (a : Int), kept.foldl (fun p v => if v < n then p + 2 else if n = v then p + 1 else p) a = a + (posN n kept : Int)
  | [], a => by simp [posN]
  | v :: r, a => by
    rw [List.foldl_cons, posN_fold n r]
    unfold posN
    rcases Int.lt_trichotomy v n with hv | hv | hv
    · rw [if_pos hv, List.filter_cons_of_pos (by simpa using hv), List.filter_cons_of_neg (by simp; omega), List.length_cons]
      omega
    · rw [if_neg (by omega), if_pos hv.symm, List.filter_cons_of_neg (by simp; omega), List.filter_cons_of_pos (by simpa using hv), List.length_cons]
      omega
    · rw [if_neg (by omega), if_neg (by omega), List.filter_cons_of_neg (by simp; omega), List.filter_cons_of_neg (by simp; omega)]
abbrev Plc := Nat × List Int
abbrev Out3 := Str × Str × Int
abbrev placeD (c : Plc) : D := .tup [dN c.1, .tup (c.2.map .int)]
abbrev outD (o : Out3) : D := .tup [.str o.1, .str o.2.1, .int o.2.2]
abbrev msgD (m : Str × Int) : D := .tup [.str m.1, .int m.2]
structure PlaceOk (sts : List Nat) (c : Plc) : Prop where
  st : sts[c.1]? = some c.2.length
  asc : c.2.Pairwise (· < ·)
def keepOf (r : Rul) (cs : List Int) : List Int := r.src.map fun i => cs.getD i 0
def outsOf (r : Rul) (cs : List Int) : List Out3 := r.outs.map fun t => (t.1, t.2.1, cs.getD t.2.2 0)
theorem pairwise_getD {cs : List Int} (h : cs.Pairwise (· < ·)) {i j : Nat} (hij : i < j) (hj : j < cs.length) : cs.getD i 0 < cs.getD j 0 := by
  have hi : i < cs.length := by omega
  simp only [List.getD, List.getElem?_eq_getElem hi, List.getElem?_eq_getElem hj, Option.getD_some]
  exact (List.pairwise_iff_getElem.mp h) i j hi hj hij
theorem keep_ok {sts : List Nat} {r : Rul} {cs : List Int} {t : Nat} (ht : sts[r.tg]? = some t) (hs : SrcOk cs.length t r.src) (hc : cs.Pairwise (· < ·)) : PlaceOk sts (r.tg, keepOf r cs) := by
  refine ⟨by rw [ht]; show some t = some (keepOf r cs).length; rw [keepOf, List.length_map, hs.len], ?_⟩
  show (keepOf r cs).Pairwise (· < ·)
  rw [keepOf, List.pairwise_map]
  exact hs.asc.imp_of_mem fun ha hb hab => pairwise_getD hc hab (hs.lt _ hb)
theorem rule_there {p : Prog} (hp : ProgOk p) {c : Plc} (hc : PlaceOk p.sts c) {nm : Str} (hn : nm ∈ p.names) (n : Int) : ∃ r ∈ p.rules, r.key = (c.1, nm, posN n c.2) := by
  have hm : (c.1, nm, posN n c.2) ∈ keysOf p.names p.sts := by
    have key : ∀ (sts : List Nat) (s i k : Nat), sts[i]? = some k → posN n c.2 < 2 * k + 1 → (s + i, nm, posN n c.2) ∈ keysFrom p.names s sts := by
      intro sts
      induction sts with
      | nil => intro s i k h _; simp at h
      | cons a r ih =>
        intro s i k h hk
        cases i with
        | zero =>
          simp at h
          subst h
          exact List.mem_append_left _ (List.mem_flatMap.mpr ⟨nm, hn, List.mem_map.mpr ⟨_, by simpa using hk, rfl⟩⟩)
        | succ i =>
          have := ih (s + 1) i k (by simpa using h) hk
          rw [show s + (i + 1) = s + 1 + i by omega]
          exact List.mem_append_right _ this
    have := key p.sts 0 c.1 _ hc.st (posN_le hc.asc)
    rw [Nat.zero_add] at this
    exact this
  rw [← hp.keys] at hm
  obtain ⟨r, hr, e⟩ := List.mem_map.mp hm
  exact ⟨r, hr, e⟩
theorem getD_at {cs : List Int} {i : Nat} (h : i < cs.length) : cs[i]? = some (cs.getD i 0) := by
  simp [List.getD, List.getElem?_eq_getElem h]
theorem oSorted_ints (ns : List Int) : oSorted (.lst (ns.map .int)) = if ns.length < 64 then some ((sortI ns).map .int) else none := by
  show (ints? (ns.map D.int)).bind _ = _
  rw [ints_map]; rfl
/-- a drawn plan -/
def planD (p : Prog) : List D := [.tup (p.names.map .str), .tup (p.chs.map chD), .tup (p.sts.map dN), .tup (p.rules.map rulD)]
theorem sorted_cands {n : Int} {kept : List Int} (h : kept.Pairwise (· < ·)) (hl : kept.length ≤ 60) : oSorted (.lst ((kept ++ (if posN n kept % 2 = 0 then [n] else [])).map .int)) = some ((cands n kept).map .int) := by
  rw [oSorted_ints, if_pos (by split <;> simp <;> omega)]
  have hp : (kept ++ (if posN n kept % 2 = 0 then [n] else [])).Perm (cands n kept) := by
    split
    · rename_i ho
      rw [(cands_even h ho).1]
      have := List.take_append_drop (posN n kept / 2) kept
      conv => lhs; arg 1; rw [← this]
      rw [List.append_assoc, List.append_assoc]
      exact List.Perm.append_left _ List.perm_append_comm
    · rename_i ho
      rw [cands_odd h (by omega), List.append_nil]
  have hs := sorted_uniq ((sortI_perm _).trans hp) (sortI_sorted _) ((cands_asc (n := n) h).imp fun hab => Int.le_of_lt hab)
  rw [hs]
theorem find_rule {p : Prog} (hp : ProgOk p) {r : Rul} (hr : r ∈ p.rules) : p.rules.find? (fun x => x.key == r.key) = some r := by
  have nd : (p.rules.map Rul.key).Nodup := by rw [hp.keys]; exact keysFrom_nodup hp.names.nd _ _
  generalize p.rules = rules at hr nd
  induction rules with
  | nil => cases hr
  | cons x l ih =>
    rw [List.map_cons, List.nodup_cons] at nd
    rcases List.mem_cons.mp hr with e | hr'
    · rw [e]; simp [List.find?]
    · have : (x.key == r.key) = false := by
        rw [beq_eq_false_iff_ne]
        intro e
        exact nd.1 (e ▸ List.mem_map_of_mem hr')
      rw [List.find?, this]
      exact ih hr' nd.2
end DL
/-! DN: mathematics of chains. -/
namespace DL
open PySem PySem.Spec PyProof.Rows L2

/-- two lists, item by item -/
inductive All2 {α β : Type} (R : α → β → Prop) : List α → List β → Prop
  | nil : All2 R [] []
  | cons {a : α} {b : β} {as : List α} {bs : List β} : R a b → All2 R as bs → All2 R (a :: as) (b :: bs)
section
variable {α β γ : Type} {R : α → β → Prop}
theorem All2.len : ∀ {as : List α} {bs : List β}, All2 R as bs → as.length = bs.length
  | _, _, .nil => rfl
  | _, _, .cons _ t => by rw [List.length_cons, List.length_cons, All2.len t]
theorem All2.at : ∀ {as : List α} {bs : List β} {i : Nat} {b : β}, All2 R as bs → bs[i]? = some b → ∃ a, as[i]? = some a ∧ R a b
  | _, _, _, _, .nil, h => by simp at h
  | _, _, 0, _, .cons r _, h => by simp at h; subst h; exact ⟨_, rfl, r⟩
  | _, _, i + 1, _, .cons _ t, h => by
    obtain ⟨a, h1, h2⟩ := All2.at (i := i) t (by simpa using h)
    exact ⟨a, by simpa using h1, h2⟩
theorem All2.map {f : γ → α} {g : γ → β} : ∀ {xs : List γ}, (∀ x ∈ xs, R (f x) (g x)) → All2 R (xs.map f) (xs.map g)
  | [], _ => .nil
  | x :: xs, h => .cons (h x List.mem_cons_self) (All2.map fun y hy => h y (List.mem_cons_of_mem _ hy))
theorem All2.self {f : β → α} {xs : List β} (h : ∀ x ∈ xs, R (f x) x) : All2 R (xs.map f) xs := by
  have := All2.map (R := R) (f := f) (g := id) h
  simpa using this
end

abbrev Msg := Str × Int
def PlaceRow (d : D) (c : Plc) : Prop := ∃ dk, IsRow d [dN c.1, dk] ∧ IsRow dk (c.2.map .int)
def MsgRow (d : D) (m : Msg) : Prop := IsRow d [.str m.1, .int m.2]
theorem placeRow_tup (c : Plc) : PlaceRow (placeD c) c := ⟨_, .inr rfl, .inr rfl⟩
theorem msgRow_tup (m : Msg) : MsgRow (msgD m) m := .inr rfl

/-- what a program does with a message -/
def stepP (p : Prog) (c : Plc) (m : Msg) : Plc × List Out3 := match p.rules.find? (fun r => r.key == (c.1, m.1, posN m.2 c.2)) with
  | some r => ((r.tg, keepOf r (cands m.2 c.2)), outsOf r (cands m.2 c.2))
  | none => (c, [])
def hearP (p : Prog) : Plc → List Msg → Plc × List Out3
  | c, [] => (c, [])
  | c, m :: ms => ((hearP p (stepP p c m).1 ms).1, (stepP p c m).2 ++ (hearP p (stepP p c m).1 ms).2)
def onCh (os : List Out3) (ch : Str) : List Msg := (os.filter fun o => o.1 == ch).map fun o => (o.2.1, o.2.2)
abbrev Part := Plc × List Out3
abbrev partD (r : Part) : D := .tup [dN r.1.1, .tup (r.1.2.map .int), .tup (r.2.map outD)]
abbrev stepD (rs : List Part) : D := .tup (rs.map partD)
def nextMs : List Str → List Out3 → List Msg → List Msg
  | l :: _, os, _ => onCh os l
  | [], _, ms => ms
/-- the programs of a chain, one after another -/
def chainP : List Prog → List Str → List Plc → List Msg → List Part
  | p :: ps, ls, c :: cs, ms => hearP p c ms :: chainP ps ls.tail cs (nextMs ls (hearP p c ms).2 ms)
  | _, _, _, _ => []
structure CPlan where
  progs : List Prog
  links : List Str
structure ChainOk (c : CPlan) : Prop where
  ne : 1 ≤ c.progs.length
  le : c.progs.length ≤ 3
  ok : ∀ p ∈ c.progs, ProgOk p
  len : c.links.length + 1 = c.progs.length
  link : ∀ k p q l, c.progs[k]? = some p → c.progs[k + 1]? = some q → c.links[k]? = some l → ∃ ch ∈ p.chs, ch.1 = l ∧ ch.2 = q.names
abbrev CPlan.stepC (c : CPlan) (cs : List Plc) (m : Msg) : List Part := chainP c.progs c.links cs [m]
abbrev plcsOf (rs : List Part) : List Plc := rs.map (·.1)
def CPlan.deedC (c : CPlan) : List Plc → List Msg → List (List Part)
  | _, [] => []
  | cs, m :: ms => c.stepC cs m :: c.deedC (plcsOf (c.stepC cs m)) ms
def CPlan.endC (c : CPlan) : List Plc → List Msg → List Plc
  | cs, [] => cs
  | cs, m :: ms => c.endC (plcsOf (c.stepC cs m)) ms
def PlacesOk (c : CPlan) (cs : List Plc) : Prop := All2 (fun p x => PlaceOk p.sts x) c.progs cs
/-- what is written on the channels of p -/
def OutOf (p : Prog) (o : Out3) : Prop := ∃ ch ∈ p.chs, o.1 = ch.1 ∧ o.2.1 ∈ ch.2
theorem outOf_str {p : Prog} (hp : ProgOk p) {o : Out3} (h : OutOf p o) : PyData.strOk o.1 = true ∧ PyData.strOk o.2.1 = true := by
  obtain ⟨c, hc, h1, h2⟩ := h
  exact ⟨by rw [h1]; exact (hp.chs.names.word _ (List.mem_map_of_mem hc)).1.ok, ((hp.chs.signals c hc).word _ h2).1.ok⟩
section
variable {p : Prog}
theorem stepP_rule (hp : ProgOk p) {c : Plc} {m : Msg} {r : Rul} (hr : r ∈ p.rules) (hk : r.key = (c.1, m.1, posN m.2 c.2)) : stepP p c m = ((r.tg, keepOf r (cands m.2 c.2)), outsOf r (cands m.2 c.2)) := by
  unfold stepP
  rw [← hk, find_rule hp hr]
theorem stepP_ok (hp : ProgOk p) {c : Plc} (hc : PlaceOk p.sts c) {m : Msg} (hm : m.1 ∈ p.names) : PlaceOk p.sts (stepP p c m).1 ∧ (stepP p c m).2.length ≤ 3 ∧ ∀ o ∈ (stepP p c m).2, OutOf p o := by
  obtain ⟨r, hr, hk⟩ := rule_there hp hc hm m.2
  rw [stepP_rule hp hr hk]
  obtain ⟨k, t, q1, q2, q3, q4, q5⟩ := hp.rules r hr
  have hst : r.st = c.1 := congrArg Prod.fst hk
  have hpos : r.pos = posN m.2 c.2 := congrArg (fun x => x.2.2) hk
  rw [hst, hc.st] at q1
  cases q1
  rw [hpos, ← cands_len hc.asc] at q4 q5
  refine ⟨keep_ok q2 q4 (cands_asc hc.asc), by show (outsOf _ _).length ≤ 3; rw [outsOf, List.length_map]; exact q5.le, fun o ho => ?_⟩
  obtain ⟨t', ht, rfl⟩ := List.mem_map.mp ho
  exact (q5.ok t' ht).1
theorem hearP_ok (hp : ProgOk p) : ∀ {ms : List Msg} {c : Plc}, PlaceOk p.sts c → (∀ m ∈ ms, m.1 ∈ p.names) → PlaceOk p.sts (hearP p c ms).1 ∧ (hearP p c ms).2.length ≤ 3 * ms.length ∧ ∀ o ∈ (hearP p c ms).2, OutOf p o
  | [], c, hc, _ => ⟨hc, Nat.le_refl _, fun o ho => by cases ho⟩
  | m :: ms, c, hc, hm => by
    obtain ⟨h1, h2, h3⟩ := stepP_ok hp hc (hm m List.mem_cons_self)
    obtain ⟨k1, k2, k3⟩ := hearP_ok hp (ms := ms) h1 fun x hx => hm x (List.mem_cons_of_mem _ hx)
    refine ⟨k1, ?_, fun o ho => ?_⟩
    · show ((stepP p c m).2 ++ _).length ≤ _
      rw [List.length_append, List.length_cons]
      omega
    · rcases List.mem_append.mp (show o ∈ (stepP p c m).2 ++ (hearP p (stepP p c m).1 ms).2 from ho) with ho | ho
      · exact h3 o ho
      · exact k3 o ho
theorem hearP_app : ∀ (as bs : List Msg) (c : Plc), hearP p c (as ++ bs) = ((hearP p (hearP p c as).1 bs).1, (hearP p c as).2 ++ (hearP p (hearP p c as).1 bs).2)
  | [], bs, c => by simp [hearP]
  | a :: as, bs, c => by
    rw [List.cons_append]
    simp only [hearP, hearP_app as bs, List.append_assoc]
theorem onCh_names {os : List Out3} (hp : ProgOk p) (ho : ∀ o ∈ os, OutOf p o) {ch : Str × List Str} (hch : ch ∈ p.chs) : ∀ m ∈ onCh os ch.1, m.1 ∈ ch.2 := fun m hm => by
  obtain ⟨o, h1, rfl⟩ := List.mem_map.mp hm
  obtain ⟨h2, h3⟩ := List.mem_filter.mp h1
  obtain ⟨c, hc, e1, e2⟩ := ho o h2
  have e3 : o.1 = ch.1 := by simpa using h3
  have : c = ch := by
    have nd := hp.chs.names.nd
    have hcc : c.1 = ch.1 := e1.symm.trans e3
    clear e1 e2 e3 h1 h2 h3 ho
    generalize p.chs = chs at nd hc hch
    induction chs with
    | nil => cases hc
    | cons a r ih =>
      rw [List.map_cons, List.nodup_cons] at nd
      rcases List.mem_cons.mp hc with e1 | h1
      · rcases List.mem_cons.mp hch with e2 | h2
        · rw [e1, e2]
        · rw [e1] at hcc; exact absurd (hcc ▸ List.mem_map_of_mem h2) nd.1
      · rcases List.mem_cons.mp hch with e2 | h2
        · rw [e2] at hcc; exact absurd (hcc ▸ List.mem_map_of_mem h1) nd.1
        · exact ih nd.2 h1 h2
  rw [this] at e2
  exact e2
theorem onCh_len (os : List Out3) (ch : Str) : (onCh os ch).length ≤ os.length := by
  unfold onCh
  rw [List.length_map]
  exact List.length_filter_le _ _
end
/-- the tail of a chain -/
def CPlan.tail (c : CPlan) : CPlan := ⟨c.progs.tail, c.links.tail⟩
theorem ChainOk.tail {c : CPlan} (h : ChainOk c) (h2 : 2 ≤ c.progs.length) : ChainOk c.tail := by
  have h1 := h.len
  have h3 := h.le
  refine ⟨by simp [CPlan.tail]; omega, by simp [CPlan.tail]; omega, fun p hp => h.ok p (List.mem_of_mem_tail hp), by simp [CPlan.tail]; omega, fun k p q l e1 e2 e3 => h.link (k + 1) p q l ?_ ?_ ?_⟩
  · simpa [CPlan.tail] using e1
  · simpa [CPlan.tail] using e2
  · simpa [CPlan.tail] using e3
/-- what a chain's step is -/
theorem chainP_ok : ∀ {progs : List Prog} {links : List Str} {cs : List Plc} {ms : List Msg} (hc : ChainOk ⟨progs, links⟩) (hp : All2 (fun p x => PlaceOk p.sts x) progs cs) {n : Nat} (hm : ∀ p, progs.head? = some p → ∀ m ∈ ms, m.1 ∈ p.names) (hn : ms.length ≤ n),
    All2 (fun p x => PlaceOk p.sts x) progs (plcsOf (chainP progs links cs ms)) ∧ All2 (fun p (r : Part) => ∀ o ∈ r.2, OutOf p o) progs (chainP progs links cs ms) ∧ ∀ r ∈ chainP progs links cs ms, r.2.length ≤ n * 3 ^ progs.length := by
  intro progs
  induction progs with
  | nil => intro links cs ms hc _ n _ _; exact absurd hc.ne (by simp)
  | cons p ps ih =>
    intro links cs ms hc hp n hm hn
    cases hp with
    | @cons _ c _ cs' h1 h2 =>
      have pk := hc.ok p List.mem_cons_self
      obtain ⟨k1, k2, k3⟩ := hearP_ok pk (ms := ms) h1 (hm p rfl)
      have hpow : ∀ q : Nat, 1 ≤ 3 ^ q := fun q => Nat.one_le_pow _ _ (by decide)
      have e : chainP (p :: ps) links (c :: cs') ms = hearP p c ms :: chainP ps links.tail cs' (nextMs links (hearP p c ms).2 ms) := rfl
      rw [e]
      cases ps with
      | nil =>
        cases h2
        refine ⟨.cons k1 .nil, .cons k3 .nil, fun r hr => ?_⟩
        rcases List.mem_cons.mp hr with rfl | hr
        · show _ ≤ n * 3
          omega
        · cases hr
      | cons q qs =>
        have hlen := hc.len
        obtain ⟨l, ls, rfl⟩ : ∃ l ls, links = l :: ls := by
          cases links with
          | nil => simp at hlen
          | cons l ls => exact ⟨l, ls, rfl⟩
        obtain ⟨ch, hch, el, en⟩ := hc.link 0 p q l rfl rfl rfl
        have tl : ChainOk ⟨q :: qs, ls⟩ := hc.tail (by simp)
        obtain ⟨i1, i2, i3⟩ := ih (links := ls) (ms := onCh (hearP p c ms).2 l) tl h2 (n := 3 * n) (fun p' hp' m hm' => by
          cases hp'
          rw [← en]
          rw [← el] at hm'
          exact onCh_names pk k3 hch m hm') (by have := onCh_len (hearP p c ms).2 l; omega)
        refine ⟨.cons k1 i1, .cons k3 i2, fun r hr => ?_⟩
        rcases List.mem_cons.mp hr with rfl | hr
        · have := hpow (qs.length + 1)
          calc (hearP p c ms).2.length ≤ n * 3 := by omega
            _ ≤ n * 3 ^ (p :: q :: qs).length := Nat.mul_le_mul_left n (by
              show 3 ≤ 3 ^ (qs.length + 1 + 1)
              rw [Nat.pow_succ]
              omega)
        · have := i3 r hr
          calc r.2.length ≤ 3 * n * 3 ^ (q :: qs).length := this
            _ = n * 3 ^ (p :: q :: qs).length := by
              show 3 * n * 3 ^ (qs.length + 1) = n * 3 ^ (qs.length + 1 + 1)
              rw [Nat.pow_succ 3 (qs.length + 1), Nat.mul_comm 3 n, Nat.mul_assoc, Nat.mul_comm 3]
theorem stepC_ok {c : CPlan} (hc : ChainOk c) {cs : List Plc} (hp : PlacesOk c cs) {m : Msg} (hm : ∀ p, c.progs.head? = some p → m.1 ∈ p.names) :
    PlacesOk c (plcsOf (c.stepC cs m)) ∧ All2 (fun p (r : Part) => ∀ o ∈ r.2, OutOf p o) c.progs (c.stepC cs m) ∧ ∀ r ∈ c.stepC cs m, r.2.length ≤ 27 := by
  obtain ⟨h1, h2, h3⟩ := chainP_ok (ms := [m]) (cs := cs) (n := 1) (show ChainOk ⟨c.progs, c.links⟩ from hc) hp (fun p e x hx => by rw [List.mem_singleton.mp hx]; exact hm p e) (by simp)
  refine ⟨h1, h2, fun r hr => ?_⟩
  have := h3 r hr
  have h4 := hc.le
  calc r.2.length ≤ 1 * 3 ^ c.progs.length := this
    _ ≤ 1 * 3 ^ 3 := Nat.mul_le_mul_left 1 (Nat.pow_le_pow_right (by decide) h4)
    _ = 27 := rfl
/-! ### the objects -/
abbrev revD (p : Prog) : D := progD p p.rules.reverse
def chainFields (c : CPlan) : List (Str × D) := [("programs", .tup (c.progs.map revD)), ("links", .tup (c.links.map .str))]
def chainD (c : CPlan) : D := .obj "Chain" (chainFields c)
theorem bq_links_programs : (Str.ofString "links" == Str.ofString "programs") = false := by decide +kernel
theorem ne_programs_links : (Str.ofString "programs" = Str.ofString "links") = False := eq_false (by decide +kernel)
theorem programsC (c : CPlan) : (chainFields c).lookup ("programs" : Str) = some (.tup (c.progs.map revD)) := by
  simp only [chainFields, List.lookup_cons, beq_self_eq_true]
theorem linksC (c : CPlan) : (chainFields c).lookup ("links" : Str) = some (.tup (c.links.map .str)) := by
  simp only [chainFields, List.lookup_cons, beq_self_eq_true, bq_links_programs]
theorem namesP (p : Prog) (rs : List Rul) : (progFields p rs).lookup ("names" : Str) = some (.tup (p.names.map .str)) := (fieldsP p rs).names
def cplanD (c : CPlan) : List D := [.lst (c.progs.map fun p => .lst (planD p)), .lst (c.links.map .str)]
@[simp] theorem oNeg_int (i : Int) : oNeg (.int i) = some (.int (-i)) := rfl
@[simp] theorem oRev_lst (xs : List D) : oRev (.lst xs) = some xs.reverse := rfl
theorem atI_back {α : Type} (xs : List α) : atI xs (-1) = xs.getLast? := by
  cases h : xs.reverse with
  | nil =>
    have : xs = [] := by simpa using h
    subst this
    rfl
  | cons a r =>
    have : xs = r.reverse ++ [a] := by
      have := congrArg List.reverse h
      simpa using this
    subst this
    rw [atI_last]
    simp
theorem isO_own (n : Str) (fs : List (Str × D)) : isO n (.obj n fs) = some true := if_pos rfl
theorem IsRow.ixd {c : D} {xs : List D} {i : Int} {d : D} (h : IsRow c xs) (e : atI xs i = some d) : oIx c (.int i) = some d := by rw [h.ix, e]
theorem chainP_at : ∀ {progs : List Prog} {links : List Str} {cs : List Plc} {ms : List Msg}, progs.length = cs.length → (chainP progs links cs ms).length = progs.length
  | [], _, [], _, _ => rfl
  | p :: ps, ls, c :: cs, ms, h => by
    show (chainP ps ls.tail cs _).length + 1 = ps.length + 1
    rw [chainP_at (by simpa using h)]
  | [], _, _ :: _, _, h => by simp at h
  | _ :: _, _, [], _, h => by simp at h
section
variable {α : Type} (a b c d e f : α) (r : List α)
theorem at0 : atI (a :: r) 0 = some a := atI_ofNat _ 0
theorem at1 : atI (a :: b :: r) 1 = some b := atI_ofNat _ 1
theorem at2 : atI (a :: b :: c :: r) 2 = some c := atI_ofNat _ 2
theorem at3 : atI (a :: b :: c :: d :: r) 3 = some d := atI_ofNat _ 3
theorem at4 : atI (a :: b :: c :: d :: e :: r) 4 = some e := atI_ofNat _ 4
theorem at5 : atI (a :: b :: c :: d :: e :: f :: r) 5 = some f := atI_ofNat _ 5
end
def OutRow (d : D) (o : Out3) : Prop := IsRow d [.str o.1, .str o.2.1, .int o.2.2]
theorem outRow_tup (o : Out3) : OutRow (outD o) o := .inr rfl
def PartRow (d : D) (r : Part) : Prop := ∃ dk dw ws, IsRow d [dN r.1.1, dk, dw] ∧ IsRow dk (r.1.2.map .int) ∧ IsRow dw ws ∧ All2 OutRow ws r.2
theorem partRow_tup (r : Part) : PartRow (partD r) r := ⟨_, _, _, .inr rfl, .inr rfl, .inr rfl, All2.self fun o _ => outRow_tup o⟩
def StepRow (d : D) (rs : List Part) : Prop := ∃ ps, IsRow d ps ∧ All2 PartRow ps rs
theorem stepRow_tup (rs : List Part) : StepRow (stepD rs) rs := ⟨_, .inr rfl, All2.self fun r _ => partRow_tup r⟩
theorem lcAll_filter2 {α : Type} {item : D → Option (Option D)} {p : α → Bool} {f : α → D} : ∀ {ds : List D} {xs : List α}, All2 (fun d x => item d = some (if p x = true then some (f x) else none)) ds xs → lcAll item ds = some ((xs.filter p).map f)
  | _, _, .nil => rfl
  | _, _, .cons (b := x) a t => by
    unfold lcAll
    rw [a, lcAll_filter2 t]
    cases hp : p x <;> simp [List.filter, hp]
theorem lc_filter2 {α : Type} {vs : List Nat} {gt : D → Env → Option Env} {tt : Env → R Bool} {fe : Env → R D} {ρ : Env} {p : α → Bool} {f : α → D} {ds : List D} {xs : List α} (fw : ds.length ≤ 16777216) (h : All2 (fun d x => lcItem vs gt tt fe ρ d = some (if p x = true then some (f x) else none)) ds xs) :
    lcF vs gt tt fe ρ ds = some ((xs.filter p).map f) := by
  unfold lcF
  rw [if_pos (show DL.few ds from fw)]
  exact lcAll_filter2 h
theorem lcAll_map2 {α : Type} {item : D → Option (Option D)} {f : α → D} : ∀ {ds : List D} {xs : List α}, All2 (fun d x => item d = some (some (f x))) ds xs → lcAll item ds = some (xs.map f)
  | _, _, .nil => rfl
  | _, _, .cons a t => by
    unfold lcAll
    rw [a, lcAll_map2 t]; rfl
theorem lc_map2 {α : Type} {vs : List Nat} {gt : D → Env → Option Env} {tt : Env → R Bool} {fe : Env → R D} {ρ : Env} {f : α → D} {ds : List D} {xs : List α} (fw : ds.length ≤ 16777216) (h : All2 (fun d x => lcItem vs gt tt fe ρ d = some (some (f x))) ds xs) :
    lcF vs gt tt fe ρ ds = some (xs.map f) := by
  unfold lcF
  rw [if_pos (show DL.few ds from fw)]
  exact lcAll_map2 h
theorem lcN_flat2 {α : Type} {gt : D → Env → Option Env} {fin : Env → Option (List D)} {ρ : Env} {f : α → List D} : ∀ {ds : List D} {xs : List α}, All2 (fun d x => ((gt d ρ).bind fun ρ1 => fin ρ1) = some (f x)) ds xs → lcN gt bYes fin ρ ds = some (xs.flatMap f)
  | _, _, .nil => rfl
  | _, _, .cons h1 t => by
    have ih := lcN_flat2 t
    obtain ⟨ρ1, e1, e2⟩ := Option.bind_eq_some_iff.mp h1
    unfold lcN
    rw [e1, ih]
    simp only [Option.bind_some, calm, if_true, e2, Option.map_some, List.flatMap_cons]
theorem All2.imp {α β : Type} {R S : α → β → Prop} : ∀ {as : List α} {bs : List β}, All2 R as bs → (∀ a b, b ∈ bs → R a b → S a b) → All2 S as bs
  | _, _, .nil, _ => .nil
  | _, _, .cons a t, h => .cons (h _ _ List.mem_cons_self a) (t.imp fun x y hy => h x y (List.mem_cons_of_mem _ hy))
theorem All2.drop {α β : Type} {R : α → β → Prop} : ∀ {as : List α} {bs : List β} (n : Nat), All2 R as bs → All2 R (as.drop n) (bs.drop n)
  | _, _, 0, h => h
  | _, _, _ + 1, .nil => .nil
  | _, _, n + 1, .cons _ t => by simpa using t.drop n
theorem All2.last {α β : Type} {R : α → β → Prop} : ∀ {as : List α} {bs : List β} {b : β}, All2 R as bs → bs.getLast? = some b → ∃ a, as.getLast? = some a ∧ R a b
  | _, _, _, .nil, h => by simp at h
  | _, _, b, .cons (a := x) (b := y) (as := as) (bs := bs) r t, h => by
    cases t with
    | nil => simp at h; subst h; exact ⟨_, rfl, r⟩
    | cons r2 t2 =>
      rw [List.getLast?_cons_cons] at h
      obtain ⟨a, h1, h2⟩ := All2.last (.cons r2 t2) h
      exact ⟨a, by rw [List.getLast?_cons_cons]; exact h1, h2⟩
end DL
/-! DR: mathematics of ranks. -/
namespace DL
open PySem PySem.Spec PyProof.Rows L2

theorem catD {xs ys : List D} (h : xs.length + ys.length ≤ 16777216) : oCat (.lst xs) (.lst ys) = some (xs ++ ys) := if_pos h
theorem mem_setI {x : Int} {xs : List Int} : x ∈ setI xs ↔ x ∈ xs := by
  unfold setI
  rw [(sortI_perm _).mem_iff, mem_dedI]
theorem setI_nodup (xs : List Int) : (setI xs).Nodup := (sortI_perm _).symm.nodup (dedI_nodup xs)
theorem setI_asc (xs : List Int) : (setI xs).Pairwise (· < ·) := by
  have h1 := sortI_sorted (dedI xs)
  have h2 := setI_nodup xs
  exact (h1.and h2).imp fun {a b} h => by
    have k1 := h.1
    have k2 := h.2
    omega
theorem dedI_len : ∀ xs : List Int, (dedI xs).length ≤ xs.length
  | [] => Nat.le_refl _
  | x :: r => by
    have := dedI_len r
    unfold dedI
    split <;> simp <;> omega
theorem setI_len (xs : List Int) : (setI xs).length ≤ xs.length := by
  unfold setI
  rw [(sortI_perm _).length_eq]
  exact dedI_len xs
/-- what keeps the order of the ints in xs -/
def MonoOn (f : Int → Int) (xs : List Int) : Prop := ∀ a ∈ xs, ∀ b ∈ xs, a < b → f a < f b
theorem MonoOn.lt {f : Int → Int} {xs : List Int} (h : MonoOn f xs) {a b : Int} (ha : a ∈ xs) (hb : b ∈ xs) : f a < f b ↔ a < b := by
  constructor
  · intro q
    rcases Int.lt_or_le a b with l | l
    · exact l
    · rcases Int.lt_or_eq_of_le l with l | l
      · have := h b hb a ha l; omega
      · subst l; omega
  · exact h a ha b hb
theorem setI_map {f : Int → Int} {xs : List Int} (h : MonoOn f xs) : setI (xs.map f) = (setI xs).map f := by
  refine (setI_uniq ?_ fun k => ?_).symm
  · refine List.pairwise_map.mpr ?_
    refine (setI_asc xs).imp_of_mem fun {a b} ha hb l => h a (mem_setI.mp ha) b (mem_setI.mp hb) l
  · simp only [List.mem_map, mem_setI]
/-- how many of the ints are less -/
def rkN (ns : List Int) (n : Int) : Nat := (ns.filter fun x => decide (x < n)).length
abbrev rk (ns : List Int) (n : Int) : Int := (rkN ns n : Nat)
theorem rk_at : ∀ {ns : List Int} {i : Nat} {n : Int}, ns.Pairwise (· < ·) → ns[i]? = some n → rkN ns n = i
  | [], _, _, _, h => by simp at h
  | a :: r, 0, n, p, h => by
    simp at h
    subst h
    unfold rkN
    rw [List.filter_cons_of_neg (by simp)]
    have : r.filter (fun x => decide (x < a)) = [] := by
      rw [List.filter_eq_nil_iff]
      intro x hx
      have := (List.pairwise_cons.mp p).1 x hx
      simp; omega
    rw [this]; rfl
  | a :: r, i + 1, n, p, h => by
    have hn : r[i]? = some n := by simpa using h
    have ih := rk_at (List.pairwise_cons.mp p).2 hn
    have la := (List.pairwise_cons.mp p).1 n (List.mem_of_getElem? hn)
    unfold rkN at ih ⊢
    rw [List.filter_cons_of_pos (by simpa using la), List.length_cons, ih]
theorem rk_map {f : Int → Int} {ns : List Int} (h : MonoOn f ns) {n : Int} (hn : n ∈ ns) : rkN (ns.map f) (f n) = rkN ns n := by
  unfold rkN
  rw [List.filter_map, List.length_map]
  congr 1
  refine List.filter_congr fun x hx => ?_
  simp only [Function.comp, decide_eq_decide]
  exact h.lt hx hn
theorem rk_mono {ns : List Int} (p : ns.Pairwise (· < ·)) : MonoOn (rk ns) ns := fun a ha b hb l => by
  obtain ⟨i, hi, ea⟩ := List.mem_iff_getElem.mp ha
  obtain ⟨j, hj, eb⟩ := List.mem_iff_getElem.mp hb
  have e1 := rk_at p (by rw [List.getElem?_eq_getElem hi, ea] : ns[i]? = some a)
  have e2 := rk_at p (by rw [List.getElem?_eq_getElem hj, eb] : ns[j]? = some b)
  show ((rkN ns a : Nat) : Int) < (rkN ns b : Nat)
  rw [e1, e2]
  rcases Nat.lt_trichotomy i j with q | q | q
  · omega
  · subst q; rw [ea] at eb; omega
  · have := (List.pairwise_iff_getElem.mp p) j i hj hi q
    omega
/-- the ranks of all are 0, 1, 2 and so on -/
theorem rk_all {ns : List Int} (p : ns.Pairwise (· < ·)) : ns.map (rk ns) = (List.range ns.length).map fun i : Nat => (i : Int) := by
  apply List.ext_getElem (by simp)
  intro i h1 h2
  simp only [List.getElem_map, List.getElem_range]
  have hi : i < ns.length := by simpa using h1
  rw [show rk ns ns[i] = ((rkN ns ns[i] : Nat) : Int) from rfl, rk_at p (List.getElem?_eq_getElem hi)]
/-! ### of beginnings and inputs -/
def intsOf (cs : List Plc) (ms : List Msg) : List Int := cs.flatMap (·.2) ++ ms.map (·.2)
def numsOf (cs : List Plc) (ms : List Msg) : List Int := setI (intsOf cs ms)
def mapC (f : Int → Int) (c : Plc) : Plc := (c.1, c.2.map f)
def mapM (f : Int → Int) (m : Msg) : Msg := (m.1, f m.2)
abbrev clsC (cs : List Plc) (ms : List Msg) : List Plc := cs.map (mapC (rk (numsOf cs ms)))
abbrev clsM (cs : List Plc) (ms : List Msg) : List Msg := ms.map (mapM (rk (numsOf cs ms)))
def classD (cs : List Plc) (ms : List Msg) : D := .tup [.tup ((clsC cs ms).map placeD), .tup ((clsM cs ms).map msgD)]
theorem intsC_map (f : Int → Int) (cs : List Plc) (ms : List Msg) : intsOf (cs.map (mapC f)) (ms.map (mapM f)) = (intsOf cs ms).map f := by
  unfold intsOf
  rw [List.map_append, List.map_map, List.map_map]
  congr 1
  induction cs with
  | nil => rfl
  | cons c r ih => rw [List.map_cons, List.flatMap_cons, List.flatMap_cons, List.map_append, ih]; rfl
theorem kept_in {cs : List Plc} {ms : List Msg} {c : Plc} (hc : c ∈ cs) {n : Int} (hn : n ∈ c.2) : n ∈ intsOf cs ms := List.mem_append_left _ (List.mem_flatMap.mpr ⟨c, hc, hn⟩)
theorem said_in {cs : List Plc} {ms : List Msg} {m : Msg} (hm : m ∈ ms) : m.2 ∈ intsOf cs ms := List.mem_append_right _ (List.mem_map_of_mem hm)
/-- what keeps the order keeps the class -/
theorem cls_map {f : Int → Int} {cs : List Plc} {ms : List Msg} (h : MonoOn f (intsOf cs ms)) : clsC (cs.map (mapC f)) (ms.map (mapM f)) = clsC cs ms ∧ clsM (cs.map (mapC f)) (ms.map (mapM f)) = clsM cs ms := by
  have en : numsOf (cs.map (mapC f)) (ms.map (mapM f)) = (numsOf cs ms).map f := by
    unfold numsOf
    rw [intsC_map, setI_map h]
  have hm : MonoOn f (numsOf cs ms) := fun a ha b hb => h a (mem_setI.mp ha) b (mem_setI.mp hb)
  unfold clsC clsM
  rw [en, List.map_map, List.map_map]
  refine ⟨List.map_congr_left fun c hc => ?_, List.map_congr_left fun m hm' => ?_⟩
  · simp only [Function.comp, mapC, List.map_map]
    refine congrArg (fun x => (c.1, x)) (List.map_congr_left fun n hn => ?_)
    simp only [Function.comp, rk]
    rw [rk_map hm (mem_setI.mpr (kept_in hc hn))]
  · simp only [Function.comp, mapM, rk]
    rw [rk_map hm (mem_setI.mpr (said_in hm'))]
theorem rank_mono (cs : List Plc) (ms : List Msg) : MonoOn (rk (numsOf cs ms)) (intsOf cs ms) := fun a ha b hb => rk_mono (setI_asc _) a (mem_setI.mpr ha) b (mem_setI.mpr hb)
/-- the class of the class is the class -/
theorem cls_cls (cs : List Plc) (ms : List Msg) : clsC (clsC cs ms) (clsM cs ms) = clsC cs ms ∧ clsM (clsC cs ms) (clsM cs ms) = clsM cs ms := cls_map (rank_mono cs ms)
theorem nums_cls (cs : List Plc) (ms : List Msg) : numsOf (clsC cs ms) (clsM cs ms) = (List.range (numsOf cs ms).length).map fun i : Nat => (i : Int) := by
  have e : numsOf (clsC cs ms) (clsM cs ms) = (numsOf cs ms).map (rk (numsOf cs ms)) := by
    conv => lhs; unfold numsOf
    unfold clsC clsM
    rw [intsC_map, setI_map (rank_mono cs ms)]
    rfl
  rw [e, rk_all (ns := numsOf cs ms) (setI_asc _)]

/-! ### an int among ints -/
theorem pys_ints (ns : List Int) : pys (ns.map D.int) = some (ns.map PyData.int) ∧ PyData.canLayAll0 (ns.map PyData.int) = true := by
  induction ns with
  | nil => exact ⟨rfl, rfl⟩
  | cons n r ih =>
    obtain ⟨h1, h2⟩ := ih
    constructor
    · simp [pys, h1, D.py]
    · simp [PyData.canLayAll0, h2, PyData.canLay0]
theorem cInA_ints (n : Int) (ns : List Int) : cInA (.int n) (.lst (ns.map .int)) = some (decide (n ∈ ns)) := by
  obtain ⟨h1, h2⟩ := pys_ints ns
  have h3 : seqPy (.lst (ns.map D.int)) = some (ns.map PyData.int) := h1
  have h4 : (D.int n).py = some (.int n) := rfl
  unfold cInA
  rw [h3, h4]
  simp only [Option.bind_some, h2, Bool.and_true]
  rw [if_pos (by rfl)]
  refine congrArg some ?_
  clear h1 h2 h3 h4
  induction ns with
  | nil => rfl
  | cons a r ih =>
    rw [List.map_cons, List.any_cons, ih]
    have e : PyData.eqv (.int a) (.int n) = decide (a = n) := rfl
    rw [e]
    by_cases q : a = n
    · rw [decide_eq_true q, decide_eq_true (show n ∈ a :: r by rw [q]; exact List.mem_cons_self)]; rfl
    · rw [decide_eq_false q, Bool.false_or]
      refine decide_eq_decide.mpr ?_
      rw [List.mem_cons]
      exact ⟨.inr, fun h => h.elim (fun h => absurd h.symm q) id⟩
theorem cNotInA_ints (n : Int) (ns : List Int) : cNotInA (.int n) (.lst (ns.map .int)) = some (!decide (n ∈ ns)) := by
  unfold cNotInA; rw [cInA_ints]; rfl
theorem sort_found {found xs : List Int} (nd : found.Nodup) (h : ∀ n, n ∈ found ↔ n ∈ xs) : sortI found = setI xs :=
  sorted_uniq ((sortI_perm _).trans ((nodup_perm nd (dedI_nodup xs) fun n => by rw [h, mem_dedI]).trans (sortI_perm _).symm)) (sortI_sorted _) (sortI_sorted _)

theorem sq_pos {a b : Int} (h : a < b) : 0 < a * a + a * b + b * b := by
  rcases Int.lt_or_le 0 a with ha | ha
  · have h1 : 0 < a * a := Int.mul_pos ha ha
    have h2 : 0 < a * b := Int.mul_pos ha (by omega)
    have h3 : 0 < b * b := Int.mul_pos (by omega) (by omega)
    omega
  · rcases Int.lt_or_le b 0 with hb | hb
    · have h1 : 0 < a * a := Int.mul_pos_of_neg_of_neg (by omega) (by omega)
      have h2 : 0 < a * b := Int.mul_pos_of_neg_of_neg (by omega) hb
      have h3 : 0 < b * b := Int.mul_pos_of_neg_of_neg hb hb
      omega
    · -- a ≤ 0 ≤ b
      have h1 : 0 ≤ (b + a) * (b + a) := by
        rcases Int.lt_or_le (b + a) 0 with q | q
        · exact Int.le_of_lt (Int.mul_pos_of_neg_of_neg q q)
        · exact Int.mul_nonneg q q
      have h2 : 0 ≤ (-a) * b := Int.mul_nonneg (by omega) hb
      have h3 : (b + a) * (b + a) = b * b + a * b + a * b + a * a := by
        rw [Int.add_mul, Int.mul_add, Int.mul_add, Int.mul_comm b a]; omega
      have h4 : (-a) * b = -(a * b) := Int.neg_mul a b
      rcases Int.lt_or_eq_of_le ha with q | q
      · have : 0 < a * a := Int.mul_pos_of_neg_of_neg q q
        rcases Int.lt_or_eq_of_le hb with r | r
        · have : 0 < b * b := Int.mul_pos r r
          omega
        · subst r; simp at *; omega
      · subst q
        have : 0 < b * b := Int.mul_pos (by omega) (by omega)
        simp; omega
theorem cube_mono {a b : Int} (h : a < b) : a * a * a < b * b * b := by
  have h1 := sq_pos h
  have h2 : 0 < (b - a) * (a * a + a * b + b * b) := Int.mul_pos (by omega) h1
  have h3 : (b - a) * (a * a + a * b + b * b) = b * b * b - a * a * a := by
    rw [Int.sub_mul, Int.mul_add, Int.mul_add, Int.mul_add, Int.mul_add, ← Int.mul_assoc, ← Int.mul_assoc, ← Int.mul_assoc, ← Int.mul_assoc, ← Int.mul_assoc, ← Int.mul_assoc, Int.mul_comm b a]
    have e : a * b * a = a * a * b := by rw [Int.mul_assoc, Int.mul_comm b a, ← Int.mul_assoc]
    omega
  omega

/-- a loop's turn that goes on -/
theorem forD_step {gt : D → DL.Env → Option DL.Env} {g : DL.Env → Option Out} {d : D} {rest : List D} {ρ ρ1 ρ2 : DL.Env} {o : Option Out} (h1 : gt d ρ = some ρ1) (h2 : g ρ1 = some (.nx ρ2)) (h3 : forD gt g rest ρ2 = o) : forD gt g (d :: rest) ρ = o := by
  rw [← h3]
  conv => lhs; unfold forD
  rw [h1]
  simp only [Option.bind_some]
  rw [h2]
  rfl
/-- .. that ends it -/
theorem forD_stop {gt : D → DL.Env → Option DL.Env} {g : DL.Env → Option Out} {d : D} {rest : List D} {ρ ρ1 : DL.Env} {r : Ret} (h1 : gt d ρ = some ρ1) (h2 : g ρ1 = some (.rt r)) : forD gt g (d :: rest) ρ = some (.rt r) := by
  conv => lhs; unfold forD
  rw [h1]
  simp only [Option.bind_some]
  rw [h2]
  rfl
end DL
/-! DE: everything that a chain does depends on the order of integers alone. -/
namespace DL
open PySem PySem.Spec PyProof.Rows L2

def mapO (f : Int → Int) (o : Out3) : Out3 := (o.1, o.2.1, f o.2.2)
def mapR (f : Int → Int) (r : Part) : Part := (mapC f r.1, r.2.map (mapO f))
def mapX (f : Int → Int) (X : List (List Part)) : List (List Part) := X.map fun rs => rs.map (mapR f)
/-- f keeps the order of the ints of S -/
def MonoS (f : Int → Int) (S : Int → Prop) : Prop := ∀ a b, S a → S b → a < b → f a < f b
section
variable {f : Int → Int} {S : Int → Prop}
theorem MonoS.lt (h : MonoS f S) {a b : Int} (ha : S a) (hb : S b) : decide (f a < f b) = decide (a < b) := by
  refine decide_eq_decide.mpr ⟨fun q => ?_, h a b ha hb⟩
  rcases Int.lt_trichotomy a b with l | l | l
  · exact l
  · subst l; omega
  · have := h b a hb ha l; omega
theorem MonoS.eq (h : MonoS f S) {a b : Int} (ha : S a) (hb : S b) : (f a == f b) = (a == b) := by
  rcases Int.lt_trichotomy a b with l | l | l
  · have := h a b ha hb l
    rw [beq_eq_false_iff_ne.mpr (by omega), beq_eq_false_iff_ne.mpr (by omega)]
  · subst l; rw [beq_self_eq_true, beq_self_eq_true]
  · have := h b a hb ha l
    rw [beq_eq_false_iff_ne.mpr (by omega), beq_eq_false_iff_ne.mpr (by omega)]
theorem posN_map (h : MonoS f S) {n : Int} (hn : S n) {kept : List Int} (hk : ∀ x ∈ kept, S x) : posN (f n) (kept.map f) = posN n kept := by
  unfold posN
  rw [List.filter_map, List.filter_map, List.length_map, List.length_map]
  congr 1
  · congr 1
    congr 1
    exact List.filter_congr fun x hx => h.lt (hk x hx) hn
  · congr 1
    exact List.filter_congr fun x hx => h.eq (hk x hx) hn
theorem cands_map (h : MonoS f S) {n : Int} (hn : S n) {kept : List Int} (hk : ∀ x ∈ kept, S x) : cands (f n) (kept.map f) = (cands n kept).map f := by
  unfold cands
  rw [List.filter_map, List.filter_map, List.map_append, List.map_cons]
  congr 1
  · congr 1
    exact List.filter_congr fun x hx => h.lt (hk x hx) hn
  · congr 1
    congr 1
    exact List.filter_congr fun x hx => h.lt hn (hk x hx)
theorem cands_in {n : Int} (hn : S n) {kept : List Int} (hk : ∀ x ∈ kept, S x) : ∀ x ∈ cands n kept, S x := fun x hx => by
  unfold cands at hx
  rcases List.mem_append.mp hx with hx | hx
  · exact hk x (List.mem_filter.mp hx).1
  · rcases List.mem_cons.mp hx with rfl | hx
    · exact hn
    · exact hk x (List.mem_filter.mp hx).1
theorem getD_map {cs : List Int} {i : Nat} (hi : i < cs.length) : (cs.map f).getD i 0 = f (cs.getD i 0) := by
  rw [List.getD_eq_getElem?_getD, List.getD_eq_getElem?_getD, List.getElem?_map, List.getElem?_eq_getElem hi]; rfl
theorem getD_in {cs : List Int} (h : ∀ x ∈ cs, S x) {i : Nat} (hi : i < cs.length) : S (cs.getD i 0) := by
  rw [List.getD_eq_getElem?_getD, List.getElem?_eq_getElem hi]
  exact h _ (List.getElem_mem hi)
variable {p : Prog}
theorem rule_idx (hp : ProgOk p) {c : Plc} (hc : PlaceOk p.sts c) {n : Int} {nm : Str} {r : Rul} (hr : r ∈ p.rules) (hk : r.key = (c.1, nm, posN n c.2)) : (∀ i ∈ r.src, i < (cands n c.2).length) ∧ ∀ t ∈ r.outs, t.2.2 < (cands n c.2).length := by
  obtain ⟨k, t, q1, q2, q3, q4, q5⟩ := hp.rules r hr
  have hst : r.st = c.1 := congrArg Prod.fst hk
  have hpos : r.pos = posN n c.2 := congrArg (fun x => x.2.2) hk
  rw [hst, hc.st] at q1
  cases q1
  rw [hpos, ← cands_len hc.asc] at q4 q5
  exact ⟨q4.lt, fun t ht => (q5.ok t ht).2⟩
theorem stepP_map (h : MonoS f S) (hp : ProgOk p) {c : Plc} (hc : PlaceOk p.sts c) {m : Msg} (hm : m.1 ∈ p.names) (hk : ∀ x ∈ c.2, S x) (hn : S m.2) :
    stepP p (mapC f c) (mapM f m) = mapR f (stepP p c m) ∧ (∀ x ∈ (stepP p c m).1.2, S x) ∧ ∀ o ∈ (stepP p c m).2, S o.2.2 := by
  obtain ⟨r, hr, hkey⟩ := rule_there hp hc hm m.2
  obtain ⟨i1, i2⟩ := rule_idx hp hc hr hkey
  have hin := cands_in hn hk
  have e1 := stepP_rule hp hr hkey
  have e2 : stepP p (mapC f c) (mapM f m) = ((r.tg, keepOf r (cands (f m.2) (c.2.map f))), outsOf r (cands (f m.2) (c.2.map f))) := by
    refine stepP_rule (c := mapC f c) (m := mapM f m) hp hr ?_
    rw [hkey]
    show _ = (c.1, m.1, posN (f m.2) (c.2.map f))
    rw [posN_map h hn hk]
  rw [e1, e2, cands_map h hn hk]
  refine ⟨?_, fun x hx => ?_, fun o ho => ?_⟩
  · unfold mapR mapC
    refine Prod.ext ?_ ?_
    · show (r.tg, keepOf r _) = (r.tg, (keepOf r _).map f)
      refine congrArg (Prod.mk r.tg) ?_
      unfold keepOf
      rw [List.map_map]
      exact List.map_congr_left fun i hi => getD_map (i1 i hi)
    · show outsOf r _ = (outsOf r _).map (mapO f)
      unfold outsOf
      rw [List.map_map]
      refine List.map_congr_left fun t ht => ?_
      show (t.1, t.2.1, _) = (t.1, t.2.1, f _)
      rw [getD_map (i2 t ht)]
  · obtain ⟨i, hi, rfl⟩ := List.mem_map.mp hx
    exact getD_in hin (i1 i hi)
  · obtain ⟨t, ht, rfl⟩ := List.mem_map.mp ho
    exact getD_in hin (i2 t ht)
theorem hearP_map (h : MonoS f S) (hp : ProgOk p) : ∀ {ms : List Msg} {c : Plc}, PlaceOk p.sts c → (∀ m ∈ ms, m.1 ∈ p.names) → (∀ x ∈ c.2, S x) → (∀ m ∈ ms, S m.2) →
    hearP p (mapC f c) (ms.map (mapM f)) = mapR f (hearP p c ms) ∧ (∀ x ∈ (hearP p c ms).1.2, S x) ∧ ∀ o ∈ (hearP p c ms).2, S o.2.2
  | [], c, hc, _, hk, _ => ⟨rfl, hk, fun o ho => by cases ho⟩
  | m :: ms, c, hc, hm, hk, hn => by
    obtain ⟨a1, a2, a3⟩ := stepP_map h hp hc (hm m List.mem_cons_self) hk (hn m List.mem_cons_self)
    obtain ⟨b1, _, _⟩ := stepP_ok hp hc (hm m List.mem_cons_self)
    obtain ⟨c1, c2, c3⟩ := hearP_map h hp (ms := ms) b1 (fun x hx => hm x (List.mem_cons_of_mem _ hx)) a2 fun x hx => hn x (List.mem_cons_of_mem _ hx)
    refine ⟨?_, c2, fun o ho => ?_⟩
    · rw [List.map_cons]
      simp only [hearP]
      rw [a1]
      show ((hearP p (mapC f (stepP p c m).1) _).1, (stepP p c m).2.map (mapO f) ++ (hearP p (mapC f (stepP p c m).1) _).2) = _
      rw [c1]
      unfold mapR
      rw [List.map_append]
    · rcases List.mem_append.mp (show o ∈ (stepP p c m).2 ++ (hearP p (stepP p c m).1 ms).2 from ho) with ho | ho
      · exact a3 o ho
      · exact c3 o ho
theorem onCh_map (os : List Out3) (ch : Str) : onCh (os.map (mapO f)) ch = (onCh os ch).map (mapM f) := by
  unfold onCh
  rw [List.filter_map, List.map_map, List.map_map]
  rfl
/-- a deed's part that is possible -/
structure PossPart (p : Prog) (most ranks : Nat) (r : Part) : Prop where
  place : PlaceOk p.sts r.1
  kept : ∀ n ∈ r.1.2, 0 ≤ n ∧ n < ranks
  few : r.2.length ≤ most
  outs : ∀ o ∈ r.2, OutOf p o ∧ 0 ≤ o.2.2 ∧ o.2.2 < ranks
inductive PossStep (ranks : Nat) : Nat → List Prog → List Part → Prop
  | nil {most : Nat} : PossStep ranks most [] []
  | cons {most : Nat} {p : Prog} {ps : List Prog} {r : Part} {rs : List Part} : PossPart p (most * 3) ranks r → PossStep ranks (most * 3) ps rs → PossStep ranks most (p :: ps) (r :: rs)
def PossDeed (c : CPlan) (ranks n : Nat) (X : List (List Part)) : Prop := X.length = n ∧ ∀ rs ∈ X, PossStep ranks 1 c.progs rs
theorem chainP_map (h : MonoS f S) : ∀ {progs : List Prog} {links : List Str} {cs : List Plc} {ms : List Msg} (_ : ChainOk ⟨progs, links⟩) (_ : All2 (fun p x => PlaceOk p.sts x) progs cs) (_ : ∀ p, progs.head? = some p → ∀ m ∈ ms, m.1 ∈ p.names) (_ : ∀ c ∈ cs, ∀ x ∈ c.2, S x) (_ : ∀ m ∈ ms, S m.2) {n : Nat} (_ : ms.length ≤ n),
    chainP progs links (cs.map (mapC f)) (ms.map (mapM f)) = (chainP progs links cs ms).map (mapR f) ∧ (∀ r ∈ chainP progs links cs ms, (∀ x ∈ r.1.2, S x) ∧ ∀ o ∈ r.2, S o.2.2) ∧
      ∀ ranks : Nat, (∀ x, S x → 0 ≤ x ∧ x < ranks) → PossStep ranks n progs (chainP progs links cs ms) := by
  intro progs
  induction progs with
  | nil => intro links cs ms hc; exact absurd hc.ne (by simp)
  | cons p ps ih =>
    intro links cs ms hc hp hm hk hn n hlen0
    cases hp with
    | @cons _ c _ cs' h1 h2 =>
      have pk := hc.ok p List.mem_cons_self
      obtain ⟨k1, k2, k3⟩ := hearP_ok pk (ms := ms) h1 (hm p rfl)
      obtain ⟨g1, g2, g3⟩ := hearP_map h pk (ms := ms) h1 (hm p rfl) (hk c List.mem_cons_self) hn
      have poss : ∀ ranks : Nat, (∀ x, S x → 0 ≤ x ∧ x < ranks) → PossPart p (n * 3) ranks (hearP p c ms) := fun ranks hR => ⟨k1, fun x hx => hR x (g2 x hx), by omega, fun o ho => ⟨k3 o ho, hR _ (g3 o ho)⟩⟩
      have e : chainP (p :: ps) links (c :: cs') ms = hearP p c ms :: chainP ps links.tail cs' (nextMs links (hearP p c ms).2 ms) := rfl
      have e2 : chainP (p :: ps) links ((c :: cs').map (mapC f)) (ms.map (mapM f)) = hearP p (mapC f c) (ms.map (mapM f)) :: chainP ps links.tail (cs'.map (mapC f)) (nextMs links (hearP p (mapC f c) (ms.map (mapM f))).2 (ms.map (mapM f))) := rfl
      rw [e, e2, g1]
      cases ps with
      | nil =>
        cases h2
        refine ⟨rfl, fun r hr => ?_, fun ranks hR => .cons (poss ranks hR) .nil⟩
        rcases List.mem_cons.mp hr with rfl | hr
        · exact ⟨g2, g3⟩
        · cases hr
      | cons q qs =>
        have hlen := hc.len
        obtain ⟨l, ls, rfl⟩ : ∃ l ls, links = l :: ls := by
          cases links with
          | nil => simp at hlen
          | cons l ls => exact ⟨l, ls, rfl⟩
        obtain ⟨ch, hch, el, en⟩ := hc.link 0 p q l rfl rfl rfl
        have tl : ChainOk ⟨q :: qs, ls⟩ := hc.tail (by simp)
        obtain ⟨i1, i2, i3⟩ := ih (links := ls) (ms := onCh (hearP p c ms).2 l) tl h2 (fun p' hp' m hm' => by
          cases hp'
          rw [← en]
          rw [← el] at hm'
          exact onCh_names pk k3 hch m hm') (fun x hx => hk x (List.mem_cons_of_mem _ hx)) (fun m hm' => by
          obtain ⟨o, ho, rfl⟩ := List.mem_map.mp hm'
          exact g3 o (List.mem_filter.mp ho).1) (n := n * 3) (by have := onCh_len (hearP p c ms).2 l; omega)
        refine ⟨?_, fun r hr => ?_, fun ranks hR => .cons (poss ranks hR) (i3 ranks hR)⟩
        · rw [List.map_cons]
          refine congrArg (mapR f (hearP p c ms) :: ·) ?_
          show chainP (q :: qs) ls (cs'.map (mapC f)) (onCh ((hearP p c ms).2.map (mapO f)) l) = _
          rw [onCh_map]
          exact i1
        · rcases List.mem_cons.mp hr with rfl | hr
          · exact ⟨g2, g3⟩
          · exact i2 r hr
end
section
variable {f : Int → Int} {S : Int → Prop} {c : CPlan}
theorem plcs_map (rs : List Part) : plcsOf (rs.map (mapR f)) = (plcsOf rs).map (mapC f) := by
  show (rs.map (mapR f)).map (·.1) = (rs.map (·.1)).map (mapC f)
  rw [List.map_map, List.map_map]; rfl
/-- THE DEED by the order of integers alone -/
theorem deed_map (h : MonoS f S) (hc : ChainOk c) : ∀ (ms : List Msg) (cs : List Plc), PlacesOk c cs → (∀ p, c.progs.head? = some p → ∀ m ∈ ms, m.1 ∈ p.names) → (∀ x ∈ cs, ∀ n ∈ x.2, S n) → (∀ m ∈ ms, S m.2) →
    c.deedC (cs.map (mapC f)) (ms.map (mapM f)) = mapX f (c.deedC cs ms) ∧ c.endC (cs.map (mapC f)) (ms.map (mapM f)) = (c.endC cs ms).map (mapC f) ∧
      (∀ ranks : Nat, (∀ x, S x → 0 ≤ x ∧ x < ranks) → PossDeed c ranks ms.length (c.deedC cs ms)) ∧ (∀ x ∈ c.endC cs ms, ∀ n ∈ x.2, S n) ∧ PlacesOk c (c.endC cs ms) ∧
      ∀ rs ∈ c.deedC cs ms, ∀ r ∈ rs, (∀ x ∈ r.1.2, S x) ∧ ∀ o ∈ r.2, S o.2.2
  | [], cs, hp, _, hk, _ => ⟨rfl, rfl, fun ranks _ => ⟨rfl, fun rs h => by cases h⟩, hk, hp, fun rs h => by cases h⟩
  | m :: ms, cs, hp, hm, hk, hn => by
    obtain ⟨a1, a2, a3⟩ := chainP_map h (progs := c.progs) (links := c.links) (cs := cs) (ms := [m]) hc hp (fun p e x hx => by rw [List.mem_singleton.mp hx]; exact hm p e m List.mem_cons_self) hk (fun x hx => by rw [List.mem_singleton.mp hx]; exact hn m List.mem_cons_self) (n := 1) (Nat.le_refl _)
    obtain ⟨b1, _, _⟩ := stepC_ok hc hp (m := m) fun p e => hm p e m List.mem_cons_self
    obtain ⟨c1, c2, c3, c4, c5, c6⟩ := deed_map h hc ms (plcsOf (c.stepC cs m)) b1 (fun p e x hx => hm p e x (List.mem_cons_of_mem _ hx)) (fun x hx => by
      obtain ⟨r, hr, rfl⟩ := List.mem_map.mp hx
      exact (a2 r hr).1) fun x hx => hn x (List.mem_cons_of_mem _ hx)
    have e0 : c.stepC (cs.map (mapC f)) (mapM f m) = (c.stepC cs m).map (mapR f) := a1
    refine ⟨?_, ?_, fun ranks hR => ⟨?_, fun rs hrs => ?_⟩, c4, c5, fun rs hrs => ?_⟩
    · rw [List.map_cons]
      simp only [CPlan.deedC]
      rw [e0, plcs_map, c1]
      rfl
    · rw [List.map_cons]
      simp only [CPlan.endC]
      rw [e0, plcs_map, c2]
    · show (c.deedC _ ms).length + 1 = ms.length + 1
      rw [(c3 ranks hR).1]
    · rcases List.mem_cons.mp (show rs ∈ c.stepC cs m :: c.deedC (plcsOf (c.stepC cs m)) ms from hrs) with rfl | hrs
      · exact a3 ranks hR
      · exact (c3 ranks hR).2 rs hrs
    · rcases List.mem_cons.mp (show rs ∈ c.stepC cs m :: c.deedC (plcsOf (c.stepC cs m)) ms from hrs) with rfl | hrs
      · exact a2
      · exact c6 rs hrs
end
/-! ### the deed of the class, with the integers back -/
/-- the integer that has a rank -/
def back (ns : List Int) (i : Int) : Int := ns.getD i.toNat 0
theorem back_rk {ns : List Int} (p : ns.Pairwise (· < ·)) {n : Int} (h : n ∈ ns) : back ns (rk ns n) = n := by
  obtain ⟨i, hi, e⟩ := List.mem_iff_getElem.mp h
  have e1 := rk_at p (by rw [List.getElem?_eq_getElem hi, e] : ns[i]? = some n)
  unfold back rk
  rw [e1, Int.toNat_natCast, List.getD_eq_getElem?_getD, List.getElem?_eq_getElem hi, e]; rfl
theorem back_mono {ns : List Int} (p : ns.Pairwise (· < ·)) : MonoS (back ns) fun i => 0 ≤ i ∧ i < ns.length := fun a b ha hb l => by
  unfold back
  have h1 : a.toNat < ns.length := by omega
  have h2 : b.toNat < ns.length := by omega
  rw [List.getD_eq_getElem?_getD, List.getD_eq_getElem?_getD, List.getElem?_eq_getElem h1, List.getElem?_eq_getElem h2]
  exact (List.pairwise_iff_getElem.mp p) _ _ h1 h2 (by omega)
theorem rk_lt {ns : List Int} (p : ns.Pairwise (· < ·)) {n : Int} (h : n ∈ ns) : 0 ≤ rk ns n ∧ rk ns n < ns.length := by
  obtain ⟨i, hi, e⟩ := List.mem_iff_getElem.mp h
  have e1 := rk_at p (by rw [List.getElem?_eq_getElem hi, e] : ns[i]? = some n)
  unfold rk
  rw [e1]
  omega
section
variable {c : CPlan} {cs : List Plc} {ms : List Msg}
theorem cls_back : (clsC cs ms).map (mapC (back (numsOf cs ms))) = cs ∧ (clsM cs ms).map (mapM (back (numsOf cs ms))) = ms := by
  have hb : ∀ n ∈ intsOf cs ms, back (numsOf cs ms) (rk (numsOf cs ms) n) = n := fun n hn => back_rk (setI_asc _) (mem_setI.mpr hn)
  constructor
  · rw [List.map_map]
    conv => rhs; rw [← List.map_id cs]
    refine List.map_congr_left fun x hx => ?_
    show (x.1, (x.2.map _).map _) = (x.1, x.2)
    rw [List.map_map]
    refine congrArg (Prod.mk x.1) ?_
    conv => rhs; rw [← List.map_id x.2]
    exact List.map_congr_left fun n hn => hb n (kept_in hx hn)
  · rw [List.map_map]
    conv => rhs; rw [← List.map_id ms]
    refine List.map_congr_left fun m hm => ?_
    show (m.1, _) = (m.1, m.2)
    refine congrArg (Prod.mk m.1) (hb m.2 (said_in hm))
/-- one deed for all: what the class does, with the integers back -/
theorem deed_class (hc : ChainOk c) (h1 : PlacesOk c (clsC cs ms)) (hm : ∀ p, c.progs.head? = some p → ∀ m ∈ ms, m.1 ∈ p.names) :
    c.deedC cs ms = mapX (back (numsOf cs ms)) (c.deedC (clsC cs ms) (clsM cs ms)) ∧ PossDeed c (numsOf cs ms).length ms.length (c.deedC (clsC cs ms) (clsM cs ms)) ∧ c.endC cs ms = (c.endC (clsC cs ms) (clsM cs ms)).map (mapC (back (numsOf cs ms))) := by
  have hr : ∀ n ∈ intsOf cs ms, 0 ≤ rk (numsOf cs ms) n ∧ rk (numsOf cs ms) n < (numsOf cs ms).length := fun n hn => rk_lt (setI_asc _) (mem_setI.mpr hn)
  obtain ⟨a1, a2, a3, _⟩ := deed_map (back_mono (ns := numsOf cs ms) (setI_asc _)) hc (clsM cs ms) (clsC cs ms) h1 (fun p e m hm' => by
    obtain ⟨y, hy, rfl⟩ := List.mem_map.mp hm'
    exact hm p e y hy) (fun x hx n hn => by
    obtain ⟨y, hy, rfl⟩ := List.mem_map.mp hx
    obtain ⟨z, hz, rfl⟩ := List.mem_map.mp hn
    exact hr z (kept_in hy hz)) (fun m hm' => by
    obtain ⟨y, hy, rfl⟩ := List.mem_map.mp hm'
    exact hr y.2 (said_in hy))
  rw [cls_back.1, cls_back.2] at a1 a2
  have a4 := a3 (numsOf cs ms).length fun x h => h
  rw [List.length_map] at a4
  exact ⟨a1, a4, a2⟩
end

theorem all2_mapR {α β γ : Type} {R : α → γ → Prop} {g : β → γ} : ∀ {as : List α} {bs : List β}, All2 (fun a b => R a (g b)) as bs → All2 R as (bs.map g)
  | _, _, .nil => .nil
  | _, _, .cons h t => .cons h (all2_mapR t)
theorem places_mapS {c : CPlan} {cs : List Plc} (hp : PlacesOk c cs) {f : Int → Int} (h : ∀ x ∈ cs, MonoOn f x.2) : PlacesOk c (cs.map (mapC f)) := by
  unfold PlacesOk at *
  generalize c.progs = ps at hp
  induction hp with
  | nil => exact .nil
  | @cons p x ps xs a t ih =>
    refine .cons ⟨?_, ?_⟩ (ih fun y hy => h y (List.mem_cons_of_mem _ hy))
    · show p.sts[x.1]? = some (x.2.map f).length
      rw [List.length_map]
      exact a.st
    · exact List.pairwise_map.mpr (a.asc.imp_of_mem fun {u v} hu hv l => h x List.mem_cons_self u hu v hv l)
end DL
namespace K09
open PySem PySem.Spec PyProof.Rows L2 DL
local macro_rules | `(tactic| walk_at "mir") => `(tactic| try simp (implicitDefEqProofs := false) only [runD, startE, endO, List.map_cons, List.map_nil, List.length_cons, List.length_nil, Nat.sub_self, Nat.reduceAdd, Nat.reduceSub, Nat.reduceMul, List.replicate, List.cons_append, List.nil_append, if_pos, R.bind_ok, R.of_some, R.map_ok, Option.bind_some, Option.map_some, withR_ok, seqO_nx, seqO_rt, List.set_cons_zero, List.set_cons_succ, List.getElem?_cons_zero, List.getElem?_cons_succ,
  eC, eOp, lOp, eCmp, bCmp, eNotInD, eUn, lUn, eIsi, eIsi2, eIf, eAnd, eOr, bAnd, bOr, bNot, bVal, eChain, bChain, pNone, pSome, lSl, eSlT, eSlR, aNil, aCons, eTup, lLst, eFz, eAttr, eCall, lCall, lLc, bYes, gsNil, gsCons, gT, iSeq, iR1, iR2, iZip2, iEnm, sNx, sSeq, sSet, sSetF, sSetFz, sAsg, sExpr, sRet, sRetF, sRetOwn, sRetN, sIf, sApp, sIns, sAug, sFor, sFrz, sFldM, sSetM, sPutD, eMelt, lMelt, eMake,
  getD, getB, slotL, slotD, slotM, freeze, setD, rowOf_tup, rowOf_lst, Ret_v_val, Ret_v_frl, Ret_f_frl, oItems_lst, oItems_tup, oIx_lst, oIx_tup, oIx_scr, oLen_lst, oLen_tup, oLen_scr, cInt_int, oAdd_int, oSub_int, oInt_int, oTuple_lst, oTuple_tup, oList_lst, oList_tup, oBl_bl, oNot_bl, oSlL_lst, oSlL_scr, oSlT_tup, oSlR_tup, oSlR_lst, oI_int, oAttr_obj, oAug_int, oSlR_scr, cEq_int, oSeq_lst, oSeq_tup, lcItem, calm_ok, cElt, wipeE, if_true, if_false, Bool.false_eq_true, Bool.true_eq_false, Bool.not_true, Bool.not_false, reduceCtorEq, mkL_ok, oMod_int, oDiv_int, oMul_int, oPow_10_18, Int.reduceLT, Int.reduceLE, Int.reduceNeg, Int.reducePow, Nat.reduceLeDiff, Nat.reduceLT, and_self, true_or, or_true, and_true, true_and, Nat.zero_le, Int.zero_add])
local macro_rules | `(tactic| walk_at "mir*") => `(tactic| try simp (implicitDefEqProofs := false) only [runD, startE, endO, List.map_cons, List.map_nil, List.length_cons, List.length_nil, Nat.sub_self, Nat.reduceAdd, Nat.reduceSub, Nat.reduceMul, List.replicate, List.cons_append, List.nil_append, if_pos, R.bind_ok, R.of_some, R.map_ok, Option.bind_some, Option.map_some, withR_ok, seqO_nx, seqO_rt, List.set_cons_zero, List.set_cons_succ, List.getElem?_cons_zero, List.getElem?_cons_succ,
  eC, eOp, lOp, eCmp, bCmp, eNotInD, eUn, lUn, eIsi, eIsi2, eIf, eAnd, eOr, bAnd, bOr, bNot, bVal, eChain, bChain, pNone, pSome, lSl, eSlT, eSlR, aNil, aCons, eTup, lLst, eFz, eAttr, eCall, lCall, lLc, bYes, gsNil, gsCons, gT, iSeq, iR1, iR2, iZip2, iEnm, sNx, sSeq, sSet, sSetF, sSetFz, sAsg, sExpr, sRet, sRetF, sRetOwn, sRetN, sIf, sApp, sIns, sAug, sFor, sFrz, sFldM, sSetM, sPutD, eMelt, lMelt, eMake,
  getD, getB, slotL, slotD, slotM, freeze, setD, rowOf_tup, rowOf_lst, Ret_v_val, Ret_v_frl, Ret_f_frl, oItems_lst, oItems_tup, oIx_lst, oIx_tup, oIx_scr, oLen_lst, oLen_tup, oLen_scr, cInt_int, oAdd_int, oSub_int, oInt_int, oTuple_lst, oTuple_tup, oList_lst, oList_tup, oBl_bl, oNot_bl, oSlL_lst, oSlL_scr, oSlT_tup, oSlR_tup, oSlR_lst, oI_int, oAttr_obj, oAug_int, oSlR_scr, cEq_int, oSeq_lst, oSeq_tup, lcItem, calm_ok, cElt, wipeE, if_true, if_false, Bool.false_eq_true, Bool.true_eq_false, Bool.not_true, Bool.not_false, reduceCtorEq, mkL_ok, oMod_int, oDiv_int, oMul_int, oPow_10_18, Int.reduceLT, Int.reduceLE, Int.reduceNeg, Int.reducePow, Nat.reduceLeDiff, Nat.reduceLT, and_self, true_or, or_true, and_true, true_and, Nat.zero_le, Int.zero_add, decide_true, decide_false, *])
/-! ### the draws of a law -/
def cellI (ns : List Int) (k : Nat) : Int := ns.getD k 0
theorem m_cell (ns : List Int) (k : Nat) : m__law_cell [.scr ns, .int (k : Int)] = .ok (.val (.int (cellI ns k))) := by
  unfold m__law_cell
  walk_at "mir"
  by_cases h : k < ns.length
  · have h1 : decide ((k : Int) < (ns.length : Int)) = true := by simpa using h
    simp only [h1, if_pos, atI_ofNat, List.getElem?_eq_getElem h]
    walk_at "mir"
    simp [cellI, h]
  · have h1 : decide ((k : Int) < (ns.length : Int)) = false := by simpa using h
    simp only [h1]
    walk_at "mir"
    simp [cellI, h]
/-- a row of drawn numbers: so many, each from 0 to 839 -/
def RowOk (n : Nat) (xs : List Int) : Prop := xs.length = n ∧ ∀ x ∈ xs, 0 ≤ x ∧ x < 840
theorem m_row (cell : Int) (n : Nat) (hn : n ≤ 1000) : ∃ xs, RowOk n xs ∧ m__law_row [.int cell, .int (n : Int)] = .ok (.frl (xs.map .int)) := by
  unfold m__law_row
  walk_at "mir"
  rw [oRg1_nat (by omega)]
  walk_at "mir"
  obtain ⟨⟨xs, rest, seed, j⟩, e, hl, hr, _⟩ := for_map (gt := setD 5) (g := b__law_row_1) (fun (i : Nat) => D.int (i : Int))
    (fun (s : List Int × Int × Int × Option S) => [some (S.d (D.int cell)), some (S.d (D.int (n : Int))), some (S.ml (s.1.map .int)), some (S.d (D.int s.2.1)), some (S.d (D.int s.2.2.1)), s.2.2.2])
    (fun pre s => s.1.length = pre.length ∧ (∀ x ∈ s.1, 0 ≤ x ∧ x < 840) ∧ pre.length ≤ n) (List.range n) ([], cell, cell % 2147483629 + 1, none) ⟨rfl, by simp, Nat.zero_le _⟩ (by
    intro pre x post s hx hP
    obtain ⟨xs, rest, seed, j⟩ := s
    obtain ⟨h1, h2, h3⟩ := hP
    simp only at h1 h2
    have hpn : pre.length + 1 ≤ n := by
      have := congrArg List.length hx
      simp at this
      omega
    have hlen : (xs.map D.int).length < 16777216 := by simp; omega
    refine ⟨_, if 1000000000000000000 ≤ cell then (xs ++ [rest % 840], rest / 840, seed, some (S.d (D.int (x : Int)))) else (xs ++ [((seed * 48271 + x) % 2147483647 * 69621) % 2147483629 / 7 % 840], rest, (seed * 48271 + x) % 2147483647, some (S.d (D.int (x : Int)))), rfl, .inl ?_, ?_⟩
    · unfold b__law_row_1
      walk_at "mir"
      by_cases hc : 1000000000000000000 ≤ cell
      · simp only [hc, decide_true, if_true]
        walk_at "mir"
        simp only [hlen, if_true]
        walk_at "mir"
        simp only [List.map_append, List.map_cons, List.map_nil]
      · simp only [hc, decide_false]
        walk_at "mir"
        simp only [hlen, if_true, if_false]
        walk_at "mir"
        simp only [List.map_append, List.map_cons, List.map_nil]
    · by_cases hc : 1000000000000000000 ≤ cell
      · simp only [hc, if_true]
        refine ⟨by simp [h1], fun y hy => ?_, by simp; omega⟩
        rcases List.mem_append.mp hy with hy | hy
        · exact h2 y hy
        · simp only [List.mem_singleton] at hy
          subst hy
          omega
      · simp only [hc, if_false]
        refine ⟨by simp [h1], fun y hy => ?_, by simp; omega⟩
        rcases List.mem_append.mp hy with hy | hy
        · exact h2 y hy
        · simp only [List.mem_singleton] at hy
          subst hy
          omega)
  refine ⟨xs, ⟨by simpa using hl, hr⟩, ?_⟩
  simp only [List.map_nil] at e
  rw [e]
  walk_at "mir"

/-! ### words -/
theorem m_word (x : Int) (h0 : 0 ≤ x) : ∃ w, Low w ∧ 1 ≤ w.length ∧ w.length ≤ 5 ∧ m__law_word [.int x] = .ok (.val (.str w)) := by
  have ix : ∀ y : Int, oIx (.str ALPHA) (.int (y % 26)) = some (.str ⟨#[97 + (y % 26).toNat]⟩) := fun y => alpha_ix (by omega) (by omega)
  have lw : ∀ y : Int, Low ⟨#[97 + (y % 26).toNat]⟩ := fun y => low1 (by omega)
  unfold m__law_word
  walk_at "mir*"
  by_cases h1 : 0 < x / 26 % 3
  · walk_at "mir*"
    rw [oAdd_str (by simp only [len1]; decide)]
    by_cases h2 : (x / 26 % 3 == 2) = true
    · walk_at "mir*"
      rw [oAdd_str (by simp only [len_app, len1]; decide)]
      walk_at "mir*"
      rw [oAdd_str (by simp only [len_app, len1]; decide)]
      walk_at "mir*"
      rw [oAdd_str (by simp only [len_app, len1]; decide)]
      walk_at "mir*"
      refine ⟨_, ?_, ?_, ?_, rfl⟩
      · exact ((((lw _).app (lw _)).app (lw _)).app (lw _)).app (lw _)
      · simp only [len_app, len1]; decide
      · simp only [len_app, len1]; decide
    · walk_at "mir*"
      refine ⟨_, (lw _).app (lw _), ?_, ?_, rfl⟩
      · simp only [len_app, len1]; decide
      · simp only [len_app, len1]; decide
  · have h2 : (x / 26 % 3 == 2) = false := by
      simp only [beq_eq_false_iff_ne]; omega
    walk_at "mir*"
    refine ⟨_, lw _, ?_, ?_, rfl⟩
    · simp only [len1]; decide
    · simp only [len1]; decide
def addQ (ws : List Str) (w : Str) : Str := if w ∈ ws then w ++ "q" else w
theorem lenq : (("q" : String) : Str).length = 1 := by decide +kernel
theorem lowq : Low ("q" : String) := by unfold Low; decide +kernel
theorem addQ_stay {ws : List Str} {w : Str} (h : w ∉ ws) : addQ ws w = w := if_neg h
theorem addQ_more {ws : List Str} {w : Str} (h : w ∈ ws) : addQ ws w = w ++ "q" := if_pos h
theorem four_q (ws : List Str) (hl : ws.length ≤ 3) (w : Str) : addQ ws (addQ ws (addQ ws (addQ ws w))) ∉ ws ∧ (addQ ws (addQ ws (addQ ws (addQ ws w)))).length ≤ w.length + 3 ∧
    (Low w → Low (addQ ws (addQ ws (addQ ws (addQ ws w))))) ∧ w.length ≤ (addQ ws (addQ ws (addQ ws (addQ ws w)))).length := by
  have key : ¬ (w ∈ ws ∧ w ++ "q" ∈ ws ∧ w ++ "q" ++ "q" ∈ ws ∧ w ++ "q" ++ "q" ++ "q" ∈ ws) := fun ⟨a, b, c, d⟩ => by
    have a := List.mem_map_of_mem (f := Str.length) a
    have b := List.mem_map_of_mem (f := Str.length) b
    have c := List.mem_map_of_mem (f := Str.length) c
    have d := List.mem_map_of_mem (f := Str.length) d
    simp only [len_app, lenq] at a b c d
    have hl2 : (ws.map Str.length).length ≤ 3 := by simpa using hl
    generalize ws.map Str.length = ls at a b c d hl2
    match ls with
    | [] => simp at a
    | [x] => simp at a b <;> omega
    | [x, y] => simp at a b c <;> omega
    | [x, y, z] => simp at a b c d <;> omega
    | _ :: _ :: _ :: _ :: _ => simp at hl2 <;> omega
  by_cases h1 : w ∈ ws
  · rw [addQ_more h1]
    by_cases h2 : w ++ "q" ∈ ws
    · rw [addQ_more h2]
      by_cases h3 : w ++ "q" ++ "q" ∈ ws
      · rw [addQ_more h3]
        have h4 : w ++ "q" ++ "q" ++ "q" ∉ ws := fun h4 => key ⟨h1, h2, h3, h4⟩
        rw [addQ_stay h4]
        exact ⟨h4, by simp only [len_app, lenq]; omega, fun l => ((l.app lowq).app lowq).app lowq, by simp only [len_app]; omega⟩
      · rw [addQ_stay h3, addQ_stay h3]
        exact ⟨h3, by simp only [len_app, lenq]; omega, fun l => (l.app lowq).app lowq, by simp only [len_app]; omega⟩
    · rw [addQ_stay h2, addQ_stay h2, addQ_stay h2]
      exact ⟨h2, by simp only [len_app, lenq]; omega, fun l => l.app lowq, by simp only [len_app]; omega⟩
  · rw [addQ_stay h1, addQ_stay h1, addQ_stay h1, addQ_stay h1]
    exact ⟨h1, by omega, fun l => l, by omega⟩
theorem m_words (xs : List Int) (h : RowOk 4 xs) : ∃ ws, WordsOk 4 ws ∧ m__law_words [.lst (xs.map .int)] = .ok (.val (.tup (ws.map .str))) := by
  obtain ⟨hl, hx⟩ := h
  have at_ : ∀ k : Nat, k < 4 → ∃ v, xs[k]? = some v ∧ 0 ≤ v ∧ v < 840 := fun k hk => by
    have hk2 : k < xs.length := by omega
    exact ⟨xs[k], List.getElem?_eq_getElem hk2, hx _ (List.getElem_mem hk2)⟩
  obtain ⟨r, hr, r0, r1⟩ := at_ 3 (by decide)
  unfold m__law_words
  walk_at "mir"
  have e3 : atI (xs.map D.int) 3 = some (.int r) := by
    rw [show (3 : Int) = ((3 : Nat) : Int) from rfl, atI_ofNat, List.getElem?_map, hr]; rfl
  simp only [e3]
  walk_at "mir"
  obtain ⟨n, hn, n1, n4⟩ : ∃ n : Nat, atI [D.int 1, D.int 2, D.int 1, D.int 2, D.int 1, D.int 2, D.int 3, D.int 4] (r % 8) = some (.int (n : Int)) ∧ 1 ≤ n ∧ n ≤ 4 := by
    have : r % 8 = ((0 : Nat) : Int) ∨ r % 8 = ((1 : Nat) : Int) ∨ r % 8 = ((2 : Nat) : Int) ∨ r % 8 = ((3 : Nat) : Int) ∨ r % 8 = ((4 : Nat) : Int) ∨ r % 8 = ((5 : Nat) : Int) ∨ r % 8 = ((6 : Nat) : Int) ∨ r % 8 = ((7 : Nat) : Int) := by omega
    rcases this with e | e | e | e | e | e | e | e <;> rw [e, atI_ofNat]
    · exact ⟨1, rfl, by decide, by decide⟩
    · exact ⟨2, rfl, by decide, by decide⟩
    · exact ⟨1, rfl, by decide, by decide⟩
    · exact ⟨2, rfl, by decide, by decide⟩
    · exact ⟨1, rfl, by decide, by decide⟩
    · exact ⟨2, rfl, by decide, by decide⟩
    · exact ⟨3, rfl, by decide, by decide⟩
    · exact ⟨4, rfl, by decide, by decide⟩
  simp only [hn]
  walk_at "mir"
  rw [oRg1_nat (by omega)]
  walk_at "mir"
  obtain ⟨⟨ws, j1, j2, j3⟩, e, h1, h2, h3, _⟩ := for_map (gt := setD 2) (g := b__law_words_2) (fun (i : Nat) => D.int (i : Int))
    (fun (s : List Str × Option S × Option S × Option S) => [some (S.d (D.lst (xs.map D.int))), some (S.ml (s.1.map .str)), s.2.1, s.2.2.1, s.2.2.2])
    (fun pre s => s.1.length = pre.length ∧ s.1.Nodup ∧ (∀ w ∈ s.1, Low w ∧ 1 ≤ w.length ∧ w.length ≤ 8) ∧ pre.length ≤ n) (List.range n) ([], none, none, none) ⟨rfl, by simp, by simp, Nat.zero_le _⟩ (by
    intro pre k post s hk hP
    obtain ⟨ws, j1, j2, j3⟩ := s
    obtain ⟨h1, h2, h3, h4⟩ := hP
    simp only at h1 h2 h3
    have hpn : pre.length + 1 ≤ n := by
      have := congrArg List.length hk
      simp at this
      omega
    have kn : k < n := by
      have : k ∈ List.range n := by rw [hk]; simp
      simpa using this
    obtain ⟨v, hv, v0, v1⟩ := at_ k (by omega)
    obtain ⟨w, wl, w1, w5, we⟩ := m_word v v0
    have el : atI (xs.map D.int) (k : Int) = some (.int v) := by rw [atI_ofNat, List.getElem?_map, hv]; rfl
    obtain ⟨q1, q2, q3, q4⟩ := four_q ws (by omega) w
    refine ⟨_, (ws ++ [addQ ws (addQ ws (addQ ws (addQ ws w)))], some (S.d (.int k)), some (S.d (.str (addQ ws (addQ ws (addQ ws (addQ ws w)))))), some (S.d (.int 3))), rfl, .inl ?_, ?_⟩
    · unfold b__law_words_2
      walk_at "mir"
      simp only [el]
      walk_at "mir"
      simp only [we]
      walk_at "mir"
      rw [show oRg1 (.int 4) = some ((List.range 4).map fun (i : Nat) => D.int (i : Int)) from oRg1_nat (n := 4) (by decide)]
      walk_at "mir"
      have turn : ∀ (x : Str) (j : Option S) (i : Nat), x.length ≤ 100 → b__law_words_1 [some (S.d (D.lst (xs.map D.int))), some (S.ml (ws.map .str)), some (S.d (.int k)), some (S.d (.str x)), some (S.d (.int (i : Int)))] =
          some (.nx [some (S.d (D.lst (xs.map D.int))), some (S.ml (ws.map .str)), some (S.d (.int k)), some (S.d (.str (addQ ws x))), some (S.d (.int (i : Int)))]) := by
        intro x j i hxl
        unfold b__law_words_1
        walk_at "mir"
        rw [cInS_lst]
        walk_at "mir"
        by_cases hm : x ∈ ws
        · simp only [hm, decide_true, if_true, addQ_more]
          rw [oAdd_str (by rw [lenq]; omega)]
          walk_at "mir"
        · simp only [hm, decide_false, addQ_stay, not_false_eq_true]
          walk_at "mir"
      have ll : ∀ x : Str, (addQ ws x).length ≤ x.length + 1 := fun x => by
        unfold addQ
        split
        · rw [len_app, lenq]; omega
        · omega
      have l1 := ll w
      have l2 := ll (addQ ws w)
      have l3 := ll (addQ ws (addQ ws w))
      have four : forD (setD 4) b__law_words_1 ((List.range 4).map fun (i : Nat) => D.int (i : Int)) [some (S.d (D.lst (xs.map D.int))), some (S.ml (ws.map .str)), some (S.d (.int k)), some (S.d (.str w)), j3] =
          some (.nx [some (S.d (D.lst (xs.map D.int))), some (S.ml (ws.map .str)), some (S.d (.int k)), some (S.d (.str (addQ ws (addQ ws (addQ ws (addQ ws w)))))), some (S.d (.int 3))]) := by
        show forD (setD 4) b__law_words_1 [D.int ((0 : Nat) : Int), D.int ((1 : Nat) : Int), D.int ((2 : Nat) : Int), D.int ((3 : Nat) : Int)] _ = _
        simp only [forD, setD, Option.bind_some, List.set_cons_zero, List.set_cons_succ, turn w none 0 (by omega), afterO_nx, turn (addQ ws w) none 1 (by omega), turn (addQ ws (addQ ws w)) none 2 (by omega), turn (addQ ws (addQ ws (addQ ws w))) none 3 (by omega)]
        rfl
      simp only [four]
      walk_at "mir"
      have hlen : (ws.map D.str).length < 16777216 := by simp; omega
      simp only [hlen, if_true]
      simp only [List.map_append, List.map_cons, List.map_nil]
    · refine ⟨by simp [h1], ?_, fun y hy => ?_, by simp; omega⟩
      · rw [List.nodup_append]
        refine ⟨h2, by simp, fun a ha b hb => ?_⟩
        simp only [List.mem_singleton] at hb
        subst hb
        intro hab
        exact q1 (hab ▸ ha)
      · rcases List.mem_append.mp hy with hy | hy
        · exact h3 y hy
        · simp only [List.mem_singleton] at hy
          subst hy
          exact ⟨q3 wl, by omega, by omega⟩)
  refine ⟨ws, ⟨h2, by simp at h1; omega, by simp at h1; omega, h3⟩, ?_⟩
  simp only [List.map_nil] at e
  rw [e]
  walk_at "mir"

/-! ### sources, outputs, keys -/
theorem m_sources (known count : Nat) (number : Int) (h : count ≤ known) (hk : known ≤ 1000) : ∃ src, SrcOk known count src ∧ m__law_sources [dN known, dN count, .int number] = .ok (.val (.tup (src.map dN))) := by
  unfold m__law_sources
  have er : oRange (dN known) = some ((List.range known).map dN) := by
    show (if _ then _ else _) = _
    rw [if_pos ⟨by omega, by omega⟩, Int.toNat_natCast]
  walk_at "mir*"
  rw [show (known : Int) - (count : Int) = ((known - count : Nat) : Int) by omega, oRg1_nat (by omega)]
  walk_at "mir"
  obtain ⟨⟨src, j1, j2⟩, e, h1, h2, h3, _⟩ := for_map (gt := setD 4) (g := b__law_sources_1) (fun (i : Nat) => D.int (i : Int))
    (fun (s : List Nat × Option S × Option S) => [some (S.d (dN known)), some (S.d (dN count)), some (S.d (.int number)), some (S.d (.lst (s.1.map dN))), s.2.1, s.2.2])
    (fun pre s => s.1.Pairwise (· < ·) ∧ (∀ x ∈ s.1, x < known) ∧ s.1.length + pre.length = known ∧ pre.length ≤ known - count) (List.range (known - count)) (List.range known, none, none) ⟨List.pairwise_lt_range, by simp, by simp, by simp⟩ (by
    intro pre k post s hx hP
    obtain ⟨src, j1, j2⟩ := s
    obtain ⟨h1, h2, h3, h4⟩ := hP
    simp only at h1 h2 h3
    have hpn : pre.length + 1 ≤ known - count := by
      have := congrArg List.length hx
      simp at this
      omega
    have kn : k < known - count := by
      have : k ∈ List.range (known - count) := by rw [hx]; simp
      simpa using this
    have hl : 0 < src.length := by omega
    have n0 : 0 ≤ number / (1 + 5 * (k : Int)) % (src.length : Int) := Int.emod_nonneg _ (by omega)
    have n1 : number / (1 + 5 * (k : Int)) % (src.length : Int) < (src.length : Int) := Int.emod_lt_of_pos _ (by omega)
    obtain ⟨a, ea⟩ : ∃ a : Nat, number / (1 + 5 * (k : Int)) % (src.length : Int) = (a : Int) := ⟨_, (Int.toNat_of_nonneg n0).symm⟩
    have hal : a < src.length := by omega
    refine ⟨_, (src.take a ++ src.drop (a + 1), some (S.d (.int k)), some (S.d (dN a))), rfl, .inl ?_, ?_⟩
    · unfold b__law_sources_1
      walk_at "mir"
      rw [oDiv_int (by omega)]
      walk_at "mir"
      rw [oMod_int (by simpa using hl)]
      walk_at "mir"
      simp only [List.length_map, ea]
      rw [show (a : Int) + 1 = ((a + 1 : Nat) : Int) by omega]
      simp only [cut_to, cut_from]
      rw [show oCat (.lst ((src.map dN).take a)) (.lst ((src.map dN).drop (a + 1))) = some ((src.map dN).take a ++ (src.map dN).drop (a + 1)) from if_pos (by simp; omega)]
      walk_at "mir"
      simp only [List.map_append, List.map_take, List.map_drop]
    · have sub : (src.take a ++ src.drop (a + 1)).Sublist src := by
        rw [← List.eraseIdx_eq_take_drop_succ]
        exact List.eraseIdx_sublist ..
      refine ⟨h1.sublist sub, fun x hx => h2 x (sub.subset hx), by simp; omega, by simp; omega⟩)
  simp only [List.length_range] at h3 h1
  refine ⟨src, ⟨h1, h2, by omega⟩, ?_⟩
  rw [e]
  walk_at "mir"
theorem m_outputs {c : D} (chs : List (Str × List Str)) (known : Nat) (number more : Int) (hc : IsRow c (chs.map chD)) (h1 : 0 < chs.length) (h2 : ∀ c ∈ chs, 0 < c.2.length) (hk : 0 < known) :
    ∃ outs, OutsOk chs known outs ∧ m__law_outputs [c, dN known, .int number, .int more] = .ok (.val (.tup (outs.map triD))) := by
  unfold m__law_outputs
  walk_at "mir"
  obtain ⟨n, hn, n3⟩ : ∃ n : Nat, atI [D.int 0, D.int 1, D.int 1, D.int 0, D.int 2, D.int 3] (number % 6) = some (.int (n : Int)) ∧ n ≤ 3 := by
    have : number % 6 = ((0 : Nat) : Int) ∨ number % 6 = ((1 : Nat) : Int) ∨ number % 6 = ((2 : Nat) : Int) ∨ number % 6 = ((3 : Nat) : Int) ∨ number % 6 = ((4 : Nat) : Int) ∨ number % 6 = ((5 : Nat) : Int) := by omega
    rcases this with e | e | e | e | e | e <;> rw [e, atI_ofNat]
    · exact ⟨0, rfl, by decide⟩
    · exact ⟨1, rfl, by decide⟩
    · exact ⟨1, rfl, by decide⟩
    · exact ⟨0, rfl, by decide⟩
    · exact ⟨2, rfl, by decide⟩
    · exact ⟨3, rfl, by decide⟩
  simp only [hn]
  walk_at "mir"
  rw [oRg1_nat (by omega)]
  walk_at "mir"
  obtain ⟨⟨outs, j1, j2⟩, e, h3, h4, _⟩ := for_map (gt := setD 5) (g := b__law_outputs_1) (fun (i : Nat) => D.int (i : Int))
    (fun (s : List Tri × Option S × Option S) => [some (S.d c), some (S.d (dN known)), some (S.d (.int number)), some (S.d (.int more)), some (S.ml (s.1.map triD)), s.2.1, s.2.2])
    (fun pre s => s.1.length = pre.length ∧ (∀ o ∈ s.1, (∃ c ∈ chs, o.1 = c.1 ∧ o.2.1 ∈ c.2) ∧ o.2.2 < known) ∧ pre.length ≤ n) (List.range n) ([], none, none) ⟨rfl, by simp, Nat.zero_le _⟩ (by
    intro pre k post s hx hP
    obtain ⟨outs, j1, j2⟩ := s
    obtain ⟨h3, h4, h5⟩ := hP
    simp only at h3 h4
    have hpn : pre.length + 1 ≤ n := by
      have := congrArg List.length hx
      simp at this
      omega
    have kn : k < n := by
      have : k ∈ List.range n := by rw [hx]; simp
      simpa using this
    obtain ⟨ch, hch, e1, _⟩ := at_mod (f := chD) (xs := chs) (number / (6 + 2 * (k : Int))) h1
    obtain ⟨sg, hsg, e2, _⟩ := at_mod (f := D.str) (xs := ch.2) (number / (10 + (k : Int))) (h2 ch hch)
    have n0 : 0 ≤ (more + (k : Int)) % (known : Int) := Int.emod_nonneg _ (by omega)
    have n1 : (more + (k : Int)) % (known : Int) < (known : Int) := Int.emod_lt_of_pos _ (by omega)
    obtain ⟨a, ea⟩ : ∃ a : Nat, (more + (k : Int)) % (known : Int) = (a : Int) := ⟨_, (Int.toNat_of_nonneg n0).symm⟩
    have hlen : outs.length < 16777216 := by omega
    refine ⟨_, (outs ++ [(ch.1, sg, a)], some (S.d (.int k)), some (S.d (chD ch))), rfl, .inl ?_, ?_⟩
    · unfold b__law_outputs_1
      walk_at "mir"
      rw [oDiv_int (by omega)]
      simp only [hc.len, List.length_map]
      walk_at "mir"
      rw [oMod_int (by omega)]
      walk_at "mir"
      rw [hc.ix, e1]
      walk_at "mir"
      rw [show atI [D.str ch.1, .tup (ch.2.map .str)] 0 = some (.str ch.1) from atI_ofNat _ 0, show atI [D.str ch.1, .tup (ch.2.map .str)] 1 = some (.tup (ch.2.map .str)) from atI_ofNat _ 1]
      walk_at "mir"
      rw [oDiv_int (by omega), oMod_int (by omega)]
      simp only [List.length_map]
      walk_at "mir"
      rw [oMod_int (by have := h2 ch hch; omega)]
      walk_at "mir"
      rw [e2, ea]
      walk_at "mir"
      simp only [hlen, if_true, List.map_append, List.map_cons, List.map_nil]
    · refine ⟨by simp [h3], fun o ho => ?_, by simp; omega⟩
      rcases List.mem_append.mp ho with ho | ho
      · exact h4 o ho
      · simp only [List.mem_singleton] at ho
        subst ho
        exact ⟨⟨ch, hch, rfl, hsg⟩, by show a < known; omega⟩)
  refine ⟨outs, ⟨by simp at h3; omega, h4⟩, ?_⟩
  simp only [List.map_nil] at e
  rw [e]
  walk_at "mir"
theorem m_keys (names : List Str) (sts : List Nat) (h1 : names.length ≤ 4) (h2 : StsOk sts) : m__law_keys [.tup (names.map .str), .tup (sts.map dN)] = .ok (.val (.lst ((keysOf names sts).map keyD))) := by
  have inner : ∀ (acc : List Ky) (s k : Nat) (j4 j5 : Option S), sts[s]? = some k → acc.length ≤ 10000 → ∀ l : List Str, l.length ≤ 4 → ∃ j4', forD (setD 4) b__law_keys_1 (l.map .str) [some (S.d (.tup (names.map .str))), some (S.d (.tup (sts.map dN))), some (S.d (.lst (acc.map keyD))), some (S.d (dN s)), j4, j5] =
      some (.nx [some (S.d (.tup (names.map .str))), some (S.d (.tup (sts.map dN))), some (S.d (.lst ((acc ++ ksAt l k s).map keyD))), some (S.d (dN s)), j4', j5]) := by
    intro acc s k j4 j5 hs ha l hl
    have k4 : k ≤ 4 := h2.four k (List.mem_of_getElem? hs)
    obtain ⟨⟨acc', j⟩, e, h3, _⟩ := for_map (gt := setD 4) (g := b__law_keys_1) D.str
      (fun (t : List Ky × Option S) => [some (S.d (.tup (names.map .str))), some (S.d (.tup (sts.map dN))), some (S.d (.lst (t.1.map keyD))), some (S.d (dN s)), t.2, j5])
      (fun pre t => t.1 = acc ++ ksAt pre k s ∧ pre.length ≤ 4) l (acc, j4) ⟨by simp [ksAt], by simp⟩ (by
      intro pre nm post t hx hP
      obtain ⟨acc', j⟩ := t
      obtain ⟨h3, h4⟩ := hP
      simp only at h3
      have hpl : pre.length + 1 ≤ 4 := by
        have := congrArg List.length hx
        simp at this
        omega
      have hlen : acc'.length ≤ 10036 := by
        rw [h3, List.length_append]
        have := ksAt_len (names := pre) (k := k) (s := s) (by omega) k4
        omega
      refine ⟨_, (acc' ++ (List.range (2 * k + 1)).map fun p => (s, nm, p), some (S.d (.str nm))), rfl, .inl ?_, ?_⟩
      · unfold b__law_keys_1
        walk_at "mir"
        rw [at_map (i := (s : Int)) rfl hs]
        walk_at "mir"
        rw [show (2 : Int) * (k : Int) + 1 = ((2 * k + 1 : Nat) : Int) by omega, oRg1_nat (by omega)]
        walk_at "mir"
        rw [lc_map (fun (i : Nat) => D.int (i : Int)) (f := fun p => keyD (s, nm, p)) (by simp; omega) (fun x _ => by
          unfold e__law_keys_1
          walk_at "mir")]
        walk_at "mir"
        rw [show oCat (.lst (acc'.map keyD)) (.lst ((List.range (2 * k + 1)).map fun p => keyD (s, nm, p))) = some (acc'.map keyD ++ (List.range (2 * k + 1)).map fun p => keyD (s, nm, p)) from if_pos (by simp; omega)]
        walk_at "mir"
        simp only [List.map_append, List.map_map]
        rfl
      · refine ⟨?_, by simp; omega⟩
        simp only [h3, ksAt, List.flatMap_append, List.flatMap_cons, List.flatMap_nil, List.append_nil, List.append_assoc])
    exact ⟨j, by rw [e, h3]⟩
  unfold m__law_keys
  walk_at "mir"
  simp only [List.length_map]
  rw [oRg1_nat (by have := h2.le; omega)]
  walk_at "mir"
  have outer : ∀ (rest : List Nat) (s : Nat) (acc : List Ky) (j3 j4 j5 : Option S), (∀ i k, rest[i]? = some k → sts[s + i]? = some k) → acc.length + 36 * rest.length ≤ 10000 → ∃ j3' j4', forD (setD 3) b__law_keys_2 ((List.range' s rest.length).map fun (i : Nat) => D.int (i : Int)) [some (S.d (.tup (names.map .str))), some (S.d (.tup (sts.map dN))), some (S.d (.lst (acc.map keyD))), j3, j4, j5] =
      some (.nx [some (S.d (.tup (names.map .str))), some (S.d (.tup (sts.map dN))), some (S.d (.lst ((acc ++ keysFrom names s rest).map keyD))), j3', j4', j5]) := by
    intro rest
    induction rest with
    | nil => intro s acc j3 j4 j5 _ _; exact ⟨j3, j4, by simp [forD, keysFrom]⟩
    | cons k r ih =>
      intro s acc j3 j4 j5 hs hl
      have hk : sts[s]? = some k := hs 0 k rfl
      have k4 : k ≤ 4 := h2.four k (List.mem_of_getElem? hk)
      obtain ⟨j4', e1⟩ := inner acc s k j4 j5 hk (by simp at hl; omega) names h1
      have hlen := ksAt_len (names := names) (k := k) (s := s) h1 k4
      obtain ⟨j3'', j4'', e2⟩ := ih (s + 1) (acc ++ ksAt names k s) (some (S.d (dN s))) j4' j5 (fun i x hx => by rw [Nat.add_assoc, Nat.add_comm 1 i]; exact hs (i + 1) x hx) (by simp at hl ⊢; omega)
      refine ⟨j3'', j4'', ?_⟩
      rw [List.length_cons, List.range'_succ, List.map_cons]
      unfold forD
      simp only [setD, Option.bind_some, List.set_cons_zero, List.set_cons_succ]
      have eb : b__law_keys_2 [some (S.d (.tup (names.map .str))), some (S.d (.tup (sts.map dN))), some (S.d (.lst (acc.map keyD))), some (S.d (dN s)), j4, j5] = some (.nx [some (S.d (.tup (names.map .str))), some (S.d (.tup (sts.map dN))), some (S.d (.lst ((acc ++ ksAt names k s).map keyD))), some (S.d (dN s)), j4', j5]) := by
        unfold b__law_keys_2
        walk_at "mir"
        exact e1
      rw [eb]
      simp only [Option.bind_some, afterO_nx]
      rw [e2]
      simp only [keysFrom, List.append_assoc]
  obtain ⟨j3, j4, e⟩ := outer sts 0 [] none none none (fun i k h => by rw [Nat.zero_add]; exact h) (by have := h2.le; simp; omega)
  rw [← List.range_eq_range'] at e
  simp only [List.map_nil, List.nil_append] at e
  rw [e]
  walk_at "mir"

end K09
namespace K09
open PySem PySem.Spec PyProof.Rows L2 DL
local macro_rules | `(tactic| walk_at "mir") => `(tactic| try simp (implicitDefEqProofs := false) only [runD, startE, endO, List.map_cons, List.map_nil, List.length_cons, List.length_nil, Nat.sub_self, Nat.reduceAdd, Nat.reduceSub, Nat.reduceMul, List.replicate, List.cons_append, List.nil_append, if_pos, R.bind_ok, R.of_some, R.map_ok, Option.bind_some, Option.map_some, withR_ok, seqO_nx, seqO_rt, List.set_cons_zero, List.set_cons_succ, List.getElem?_cons_zero, List.getElem?_cons_succ,
  eC, eOp, lOp, eCmp, bCmp, eNotInD, eUn, lUn, eIsi, eIsi2, eIf, eAnd, eOr, bAnd, bOr, bNot, bVal, eChain, bChain, pNone, pSome, lSl, eSlT, eSlR, aNil, aCons, eTup, lLst, eFz, eAttr, eCall, lCall, lLc, bYes, gsNil, gsCons, gT, iSeq, iR1, iR2, iZip2, iEnm, sNx, sSeq, sSet, sSetF, sSetFz, sAsg, sExpr, sRet, sRetF, sRetOwn, sRetN, sIf, sApp, sIns, sAug, sFor, sFrz, sFldM, sSetM, sPutD, eMelt, lMelt, eMake,
  getD, getB, slotL, slotD, slotM, freeze, setD, rowOf_tup, rowOf_lst, Ret_v_val, Ret_v_frl, Ret_f_frl, oItems_lst, oItems_tup, oIx_lst, oIx_tup, oIx_scr, oLen_lst, oLen_tup, oLen_scr, cInt_int, oAdd_int, oSub_int, oInt_int, oTuple_lst, oTuple_tup, oList_lst, oList_tup, oBl_bl, oNot_bl, oSlL_lst, oSlL_scr, oSlT_tup, oSlR_tup, oSlR_lst, oI_int, oAttr_obj, oAug_int, oSlR_scr, cEq_int, oSeq_lst, oSeq_tup, lcItem, calm_ok, cElt, wipeE, if_true, if_false, Bool.false_eq_true, Bool.true_eq_false, Bool.not_true, Bool.not_false, reduceCtorEq, mkL_ok, oMod_int, oDiv_int, oMul_int, oPow_10_18, Int.reduceLT, Int.reduceLE, Int.reduceNeg, Int.reducePow, Nat.reduceLeDiff, Nat.reduceLT, and_self, true_or, or_true, and_true, true_and, Nat.zero_le, Int.zero_add])
local macro_rules | `(tactic| walk_at "mir*") => `(tactic| try simp (implicitDefEqProofs := false) only [runD, startE, endO, List.map_cons, List.map_nil, List.length_cons, List.length_nil, Nat.sub_self, Nat.reduceAdd, Nat.reduceSub, Nat.reduceMul, List.replicate, List.cons_append, List.nil_append, if_pos, R.bind_ok, R.of_some, R.map_ok, Option.bind_some, Option.map_some, withR_ok, seqO_nx, seqO_rt, List.set_cons_zero, List.set_cons_succ, List.getElem?_cons_zero, List.getElem?_cons_succ,
  eC, eOp, lOp, eCmp, bCmp, eNotInD, eUn, lUn, eIsi, eIsi2, eIf, eAnd, eOr, bAnd, bOr, bNot, bVal, eChain, bChain, pNone, pSome, lSl, eSlT, eSlR, aNil, aCons, eTup, lLst, eFz, eAttr, eCall, lCall, lLc, bYes, gsNil, gsCons, gT, iSeq, iR1, iR2, iZip2, iEnm, sNx, sSeq, sSet, sSetF, sSetFz, sAsg, sExpr, sRet, sRetF, sRetOwn, sRetN, sIf, sApp, sIns, sAug, sFor, sFrz, sFldM, sSetM, sPutD, eMelt, lMelt, eMake,
  getD, getB, slotL, slotD, slotM, freeze, setD, rowOf_tup, rowOf_lst, Ret_v_val, Ret_v_frl, Ret_f_frl, oItems_lst, oItems_tup, oIx_lst, oIx_tup, oIx_scr, oLen_lst, oLen_tup, oLen_scr, cInt_int, oAdd_int, oSub_int, oInt_int, oTuple_lst, oTuple_tup, oList_lst, oList_tup, oBl_bl, oNot_bl, oSlL_lst, oSlL_scr, oSlT_tup, oSlR_tup, oSlR_lst, oI_int, oAttr_obj, oAug_int, oSlR_scr, cEq_int, oSeq_lst, oSeq_tup, lcItem, calm_ok, cElt, wipeE, if_true, if_false, Bool.false_eq_true, Bool.true_eq_false, Bool.not_true, Bool.not_false, reduceCtorEq, mkL_ok, oMod_int, oDiv_int, oMul_int, oPow_10_18, Int.reduceLT, Int.reduceLE, Int.reduceNeg, Int.reducePow, Nat.reduceLeDiff, Nat.reduceLT, and_self, true_or, or_true, and_true, true_and, Nat.zero_le, Int.zero_add, decide_true, decide_false, *])

/-! ### a drawn program -/
theorem rule_turn {names : List Str} {sts : List Nat} {chs : List (Str × List Str)} (hs : StsOk sts) (h1 : 0 < chs.length) (h2 : ∀ c ∈ chs, 0 < c.2.length) {row : List Int} (hr : ∀ x ∈ row, 0 ≤ x ∧ x < 840) {rules : List Rul} (hl : 4 + 4 * rules.length + 4 ≤ row.length) (hl2 : rules.length ≤ 1000)
    {key : Ky} {k : Nat} (hk : sts[key.1]? = some k) (hp : key.2.2 < 2 * k + 1) (d0 d1 : D) (j7 j8 j9 j10 j11 : Option S) :
    ∃ r : Rul, r.key = key ∧ RulOk chs sts r ∧ ∃ j7' j8' j9' j10' j11', b__law_program_1 [some (S.d d0), some (S.d d1), some (S.d (.lst (row.map .int))), some (S.d (.tup (sts.map dN))), some (S.d (.lst (chs.map chD))), some (S.ml (rules.map rulD)), some (S.d (keyD key)), j7, j8, j9, j10, j11, none] =
      some (.nx [some (S.d d0), some (S.d d1), some (S.d (.lst (row.map .int))), some (S.d (.tup (sts.map dN))), some (S.d (.lst (chs.map chD))), some (S.ml ((rules ++ [r]).map rulD)), some (S.d (keyD key)), j7', j8', j9', j10', j11', none]) := by
  obtain ⟨s, nm, p⟩ := key
  simp only at hk hp
  obtain ⟨a0, a1, a2, a3, e4, n0, n1, n2, n3⟩ := four_of (j := 4 + 4 * rules.length) hl hr
  have k4 : k ≤ 4 := hs.four k (List.mem_of_getElem? hk)
  have cp := cand_pos hp
  obtain ⟨tg, htg, et, _⟩ := at_mod (f := dN) (xs := fits sts (candN k p)) a0 (fits_pos hs _)
  obtain ⟨t, ht, htc⟩ := fits_mem htg
  have c5 := cand_le (p := p) k4
  obtain ⟨src, so, es⟩ := m_sources (candN k p) t a1 htc (by omega)
  obtain ⟨outs, oo, eo⟩ := m_outputs (c := .lst (chs.map chD)) chs (candN k p) a2 a3 (.inl rfl) h1 h2 cp
  refine ⟨⟨s, nm, p, tg, src, outs⟩, rfl, ⟨k, t, hk, ht, hp, so, oo⟩, some (S.d (.lst [.int a0, .int a1, .int a2, .int a3])), some (S.d (dN (candN k p))), some (S.d (.lst ((fits sts (candN k p)).map dN))), some (S.d (dN tg)), some (S.d (.tup (outs.map triD))), ?_⟩
  have hlen : rules.length < 16777216 := by omega
  unfold b__law_program_1
  walk_at "mir"
  simp only [List.length_map]
  rw [show (4 : Int) + 4 * (rules.length : Int) = ((4 + 4 * rules.length : Nat) : Int) by omega, show (8 : Int) + 4 * (rules.length : Int) = ((4 + 4 * rules.length + 4 : Nat) : Int) by omega, cut_mid, Nat.add_sub_cancel_left, ← List.map_drop, ← List.map_take, e4]
  walk_at "mir"
  rw [show atI [dN s, D.str nm, dN p] 0 = some (dN s) from atI_ofNat _ 0]
  walk_at "mir"
  rw [at_map (i := (s : Int)) rfl hk]
  walk_at "mir"
  rw [show atI [dN s, D.str nm, dN p] 2 = some (dN p) from atI_ofNat _ 2]
  walk_at "mir"
  rw [cand_int]
  walk_at "mir"
  simp only [List.length_map]
  rw [oRg1_nat (by have := hs.le; omega)]
  walk_at "mir"
  rw [lc_filter (fun (i : Nat) => D.int (i : Int)) (p := fun j => decide (sts.getD j 0 ≤ candN k p)) (f := dN) (by have := hs.le; simp; omega) (fun x hx => by
    have hx2 : x < sts.length := by simpa using hx
    unfold t__law_program_1 e__law_program_1
    walk_at "mir"
    rw [at_map (i := (x : Int)) rfl (List.getElem?_eq_getElem hx2)]
    walk_at "mir"
    have ed : decide (((sts[x] : Nat) : Int) ≤ ((candN k p : Nat) : Int)) = decide (sts.getD x 0 ≤ candN k p) := by
      simp [List.getD, List.getElem?_eq_getElem hx2]
    rw [ed]
    cases decide (sts.getD x 0 ≤ candN k p) <;> rfl)]
  walk_at "mir"
  rw [show atI [D.int a0, D.int a1, D.int a2, D.int a3] 0 = some (.int a0) from atI_ofNat _ 0]
  walk_at "mir"
  simp only [List.length_map]
  have hf0 := fits_pos hs (candN k p)
  rw [oMod_int (i := a0) (j := ((fits sts (candN k p)).length : Int)) (by omega)]
  walk_at "mir"
  rw [et]
  walk_at "mir"
  have hc0 : (0 : Int) < ((candN k p : Nat) : Int) := by omega
  simp only [hc0, decide_true, if_true]
  rw [show atI [D.int a0, D.int a1, D.int a2, D.int a3] 2 = some (.int a2) from atI_ofNat _ 2, show atI [D.int a0, D.int a1, D.int a2, D.int a3] 3 = some (.int a3) from atI_ofNat _ 3]
  walk_at "mir"
  rw [eo]
  walk_at "mir"
  rw [at_map (i := (tg : Int)) rfl ht, show atI [D.int a0, D.int a1, D.int a2, D.int a3] 1 = some (.int a1) from atI_ofNat _ 1]
  walk_at "mir"
  rw [es]
  walk_at "mir"
  rw [show oAdd (.tup [dN s, .str nm, dN p]) (.tup [dN tg, .tup (src.map dN), .tup (outs.map triD)]) = some (.tup [dN s, .str nm, dN p, dN tg, .tup (src.map dN), .tup (outs.map triD)]) from rfl]
  walk_at "mir"
  simp only [List.length_map, hlen, if_true, List.map_append, List.map_cons, List.map_nil]

end K09
namespace K09
open PySem PySem.Spec PyProof.Rows L2 DL
local macro_rules | `(tactic| walk_at "mir") => `(tactic| try simp (implicitDefEqProofs := false) only [runD, startE, endO, List.map_cons, List.map_nil, List.length_cons, List.length_nil, Nat.sub_self, Nat.reduceAdd, Nat.reduceSub, Nat.reduceMul, List.replicate, List.cons_append, List.nil_append, if_pos, R.bind_ok, R.of_some, R.map_ok, Option.bind_some, Option.map_some, withR_ok, seqO_nx, seqO_rt, List.set_cons_zero, List.set_cons_succ, List.getElem?_cons_zero, List.getElem?_cons_succ,
  eC, eOp, lOp, eCmp, bCmp, eNotInD, eUn, lUn, eIsi, eIsi2, eIf, eAnd, eOr, bAnd, bOr, bNot, bVal, eChain, bChain, pNone, pSome, lSl, eSlT, eSlR, aNil, aCons, eTup, lLst, eFz, eAttr, eCall, lCall, lLc, bYes, gsNil, gsCons, gT, iSeq, iR1, iR2, iZip2, iEnm, sNx, sSeq, sSet, sSetF, sSetFz, sAsg, sExpr, sRet, sRetF, sRetOwn, sRetN, sIf, sApp, sIns, sAug, sFor, sFrz, sFldM, sSetM, sPutD, eMelt, lMelt, eMake,
  getD, getB, slotL, slotD, slotM, freeze, setD, rowOf_tup, rowOf_lst, Ret_v_val, Ret_v_frl, Ret_f_frl, oItems_lst, oItems_tup, oIx_lst, oIx_tup, oIx_scr, oLen_lst, oLen_tup, oLen_scr, cInt_int, oAdd_int, oSub_int, oInt_int, oTuple_lst, oTuple_tup, oList_lst, oList_tup, oBl_bl, oNot_bl, oSlL_lst, oSlL_scr, oSlT_tup, oSlR_tup, oSlR_lst, oI_int, oAttr_obj, oAug_int, oSlR_scr, cEq_int, oSeq_lst, oSeq_tup, lcItem, calm_ok, cElt, wipeE, if_true, if_false, Bool.false_eq_true, Bool.true_eq_false, Bool.not_true, Bool.not_false, reduceCtorEq, mkL_ok, oMod_int, oDiv_int, oMul_int, oPow_10_18, Int.reduceLT, Int.reduceLE, Int.reduceNeg, Int.reducePow, Nat.reduceLeDiff, Nat.reduceLT, and_self, true_or, or_true, and_true, true_and, Nat.zero_le, Int.zero_add])
local macro_rules | `(tactic| walk_at "mir*") => `(tactic| try simp (implicitDefEqProofs := false) only [runD, startE, endO, List.map_cons, List.map_nil, List.length_cons, List.length_nil, Nat.sub_self, Nat.reduceAdd, Nat.reduceSub, Nat.reduceMul, List.replicate, List.cons_append, List.nil_append, if_pos, R.bind_ok, R.of_some, R.map_ok, Option.bind_some, Option.map_some, withR_ok, seqO_nx, seqO_rt, List.set_cons_zero, List.set_cons_succ, List.getElem?_cons_zero, List.getElem?_cons_succ,
  eC, eOp, lOp, eCmp, bCmp, eNotInD, eUn, lUn, eIsi, eIsi2, eIf, eAnd, eOr, bAnd, bOr, bNot, bVal, eChain, bChain, pNone, pSome, lSl, eSlT, eSlR, aNil, aCons, eTup, lLst, eFz, eAttr, eCall, lCall, lLc, bYes, gsNil, gsCons, gT, iSeq, iR1, iR2, iZip2, iEnm, sNx, sSeq, sSet, sSetF, sSetFz, sAsg, sExpr, sRet, sRetF, sRetOwn, sRetN, sIf, sApp, sIns, sAug, sFor, sFrz, sFldM, sSetM, sPutD, eMelt, lMelt, eMake,
  getD, getB, slotL, slotD, slotM, freeze, setD, rowOf_tup, rowOf_lst, Ret_v_val, Ret_v_frl, Ret_f_frl, oItems_lst, oItems_tup, oIx_lst, oIx_tup, oIx_scr, oLen_lst, oLen_tup, oLen_scr, cInt_int, oAdd_int, oSub_int, oInt_int, oTuple_lst, oTuple_tup, oList_lst, oList_tup, oBl_bl, oNot_bl, oSlL_lst, oSlL_scr, oSlT_tup, oSlR_tup, oSlR_lst, oI_int, oAttr_obj, oAug_int, oSlR_scr, cEq_int, oSeq_lst, oSeq_tup, lcItem, calm_ok, cElt, wipeE, if_true, if_false, Bool.false_eq_true, Bool.true_eq_false, Bool.not_true, Bool.not_false, reduceCtorEq, mkL_ok, oMod_int, oDiv_int, oMul_int, oPow_10_18, Int.reduceLT, Int.reduceLE, Int.reduceNeg, Int.reducePow, Nat.reduceLeDiff, Nat.reduceLT, and_self, true_or, or_true, and_true, true_and, Nat.zero_le, Int.zero_add, decide_true, decide_false, *])

theorem row_part {row : List Int} (h : RowOk 220 row) (j : Nat) (hj : j + 4 ≤ 220) : RowOk 4 ((row.drop j).take 4) := by
  refine ⟨by have := h.1; simp; omega, fun x hx => h.2 x (List.mem_of_mem_drop (List.mem_of_mem_take hx))⟩
theorem sts_draw (n : Nat) (r0 r1 r2 : Int) (h1 : 1 ≤ n) (h4 : n ≤ 4) (h0 : 0 ≤ r0) (h1' : 0 ≤ r1) (h2 : 0 ≤ r2) :
    (∃ m : Int, 0 < m ∧ atI [D.int 3, D.int 2, D.int 2, D.int 1] ((n : Int) - 1) = some (.int m) ∧
      ∃ sts, StsOk sts ∧ n * (sts.map fun k => 2 * k + 1).sum ≤ 50 ∧ cut [D.int 0, D.int (r0 % 3), D.int (r1 % 3)] none (some (1 + r2 % m)) = sts.map dN) ∧
    (∃ m : Int, atI [D.int (4 + r0 % 2), D.int 3] ((n : Int) / 3) = some (.int m) ∧
      ∃ sts, StsOk sts ∧ n * (sts.map fun k => 2 * k + 1).sum ≤ 50 ∧ cut [D.int 0, D.int 1, D.int 2, D.int 3, D.int 4] none (some m) = sts.map dN) := by
  obtain ⟨a, ea⟩ : ∃ a : Nat, r0 % 3 = (a : Int) := ⟨_, (Int.toNat_of_nonneg (by omega)).symm⟩
  obtain ⟨b, eb⟩ : ∃ a : Nat, r1 % 3 = (a : Int) := ⟨_, (Int.toNat_of_nonneg (by omega)).symm⟩
  have ha : a ≤ 2 := by omega
  have hb : b ≤ 2 := by omega
  have c : ∀ k : Nat, cut [D.int 0, D.int (r0 % 3), D.int (r1 % 3)] none (some (k : Int)) = ([0, a, b].take k).map dN := fun k => by
    rw [cut_to, List.map_take, ea, eb]; rfl
  have c' : ∀ k : Nat, cut [D.int 0, D.int 1, D.int 2, D.int 3, D.int 4] none (some (k : Int)) = ([0, 1, 2, 3, 4].take k).map dN := fun k => by
    rw [cut_to, List.map_take]; rfl
  have ok1 : StsOk [0] := ⟨by decide, rfl, by simp⟩
  have ok2 : StsOk [0, a] := ⟨by simp, rfl, by simp; omega⟩
  have ok3 : StsOk [0, a, b] := ⟨by simp, rfl, by simp; omega⟩
  have q3 : StsOk [0, 1, 2] := ⟨by simp, rfl, by simp⟩
  have q4 : StsOk [0, 1, 2, 3] := ⟨by simp, rfl, by simp⟩
  have q5 : StsOk [0, 1, 2, 3, 4] := ⟨by simp, rfl, by simp⟩
  have hn : n = 1 ∨ n = 2 ∨ n = 3 ∨ n = 4 := by omega
  refine ⟨?_, ?_⟩
  · rcases hn with rfl | rfl | rfl | rfl
    · refine ⟨3, by decide, rfl, ?_⟩
      have : 1 + r2 % 3 = ((1 : Nat) : Int) ∨ 1 + r2 % 3 = ((2 : Nat) : Int) ∨ 1 + r2 % 3 = ((3 : Nat) : Int) := by omega
      rcases this with e | e | e <;> rw [e, c]
      · exact ⟨_, ok1, by simp, rfl⟩
      · exact ⟨_, ok2, by simp; omega, rfl⟩
      · exact ⟨_, ok3, by simp; omega, rfl⟩
    · refine ⟨2, by decide, rfl, ?_⟩
      have : 1 + r2 % 2 = ((1 : Nat) : Int) ∨ 1 + r2 % 2 = ((2 : Nat) : Int) := by omega
      rcases this with e | e <;> rw [e, c]
      · exact ⟨_, ok1, by simp, rfl⟩
      · exact ⟨_, ok2, by simp; omega, rfl⟩
    · refine ⟨2, by decide, rfl, ?_⟩
      have : 1 + r2 % 2 = ((1 : Nat) : Int) ∨ 1 + r2 % 2 = ((2 : Nat) : Int) := by omega
      rcases this with e | e <;> rw [e, c]
      · exact ⟨_, ok1, by simp, rfl⟩
      · exact ⟨_, ok2, by simp; omega, rfl⟩
    · refine ⟨1, by decide, rfl, ?_⟩
      have e : 1 + r2 % 1 = ((1 : Nat) : Int) := by omega
      rw [e, c]
      exact ⟨_, ok1, by simp, rfl⟩
  · rcases hn with rfl | rfl | rfl | rfl
    · refine ⟨4 + r0 % 2, rfl, ?_⟩
      have : 4 + r0 % 2 = ((4 : Nat) : Int) ∨ 4 + r0 % 2 = ((5 : Nat) : Int) := by omega
      rcases this with e | e <;> rw [e, c']
      · exact ⟨_, q4, by simp, rfl⟩
      · exact ⟨_, q5, by simp, rfl⟩
    · refine ⟨4 + r0 % 2, rfl, ?_⟩
      have : 4 + r0 % 2 = ((4 : Nat) : Int) ∨ 4 + r0 % 2 = ((5 : Nat) : Int) := by omega
      rcases this with e | e <;> rw [e, c']
      · exact ⟨_, q4, by simp, rfl⟩
      · exact ⟨_, q5, by simp, rfl⟩
    · exact ⟨3, rfl, _, q3, by simp, c' 3⟩
    · exact ⟨3, rfl, _, q3, by simp, c' 3⟩
theorem ch_name (r5 : Int) : ∃ w : Str, Low w ∧ 1 ≤ w.length ∧ w.length ≤ 8 ∧ w ≠ ("out" : String) ∧ atI [D.str ("more" : String), D.str ("other" : String), D.str ("ou" : String), D.str ("oat" : String), D.str ("tuo" : String)] (r5 % 5) = some (.str w) := by
  have : r5 % 5 = ((0 : Nat) : Int) ∨ r5 % 5 = ((1 : Nat) : Int) ∨ r5 % 5 = ((2 : Nat) : Int) ∨ r5 % 5 = ((3 : Nat) : Int) ∨ r5 % 5 = ((4 : Nat) : Int) := by omega
  rcases this with e | e | e | e | e <;> rw [e, atI_ofNat] <;> refine ⟨_, ?_, ?_, ?_, ?_, rfl⟩ <;> (try unfold Low) <;> decide +kernel
theorem low_out : Low ("out" : String) ∧ 1 ≤ (("out" : String) : Str).length ∧ (("out" : String) : Str).length ≤ 8 := by unfold Low; decide +kernel
theorem m_program (cell : Int) (names : List Str) (hn : WordsOk 4 names) : ∃ p, ProgOk p ∧ p.names = names ∧ m__law_program [.int cell, .tup (names.map .str)] = .ok (.frl (planD p)) := by
  obtain ⟨row, hrow, er⟩ := m_row cell 220 (by decide)
  have at_ : ∀ k : Nat, k < 220 → ∃ v, row[k]? = some v ∧ 0 ≤ v ∧ v < 840 := fun k hk => by
    have hk2 : k < row.length := by have := hrow.1; omega
    exact ⟨row[k], List.getElem?_eq_getElem hk2, hrow.2 _ (List.getElem_mem hk2)⟩
  obtain ⟨r0, e0, p0, _⟩ := at_ 0 (by decide)
  obtain ⟨r1, e1, p1, _⟩ := at_ 1 (by decide)
  obtain ⟨r2, e2, p2, _⟩ := at_ 2 (by decide)
  obtain ⟨r3, e3, p3, _⟩ := at_ 3 (by decide)
  obtain ⟨r5, e5, p5, _⟩ := at_ 5 (by decide)
  obtain ⟨ws1, w1, m1⟩ := m_words _ (row_part hrow 210 (by decide))
  obtain ⟨ws2, w2, m2⟩ := m_words _ (row_part hrow 214 (by decide))
  obtain ⟨nm2, c1, c2, c3, c4, ec⟩ := ch_name r5
  obtain ⟨⟨m, hm, em, sts1, s1, t1, u1⟩, ⟨m', em', sts2, s2, t2, u2⟩⟩ := sts_draw names.length r0 r1 r2 hn.ne hn.le p0 p1 p2
  have er : m__law_row [.int cell, .int 220] = .ok (.frl (row.map .int)) := er
  have i0 : atI (row.map D.int) 0 = some (.int r0) := at_map (k := 0) rfl e0
  have i1 : atI (row.map D.int) 1 = some (.int r1) := at_map (k := 1) rfl e1
  have i2 : atI (row.map D.int) 2 = some (.int r2) := at_map (k := 2) rfl e2
  have i3 : atI (row.map D.int) 3 = some (.int r3) := at_map (k := 3) rfl e3
  have i5 : atI (row.map D.int) 5 = some (.int r5) := at_map (k := 5) rfl e5
  -- the states, whichever
  obtain ⟨sts, hs, hk, es⟩ : ∃ sts, StsOk sts ∧ names.length * (sts.map fun k => 2 * k + 1).sum ≤ 50 ∧ (if (r1 % 9 == 8) = true then sts2 else sts1) = sts := by
    split
    · exact ⟨_, s2, t2, rfl⟩
    · exact ⟨_, s1, t1, rfl⟩
  -- the channels
  obtain ⟨chs, hc, ech⟩ : ∃ chs, ChsOk chs ∧ cut [chD (("out" : String), ws1), chD (nm2, ws2)] none (some (1 + r3 % 2)) = chs.map chD := by
    have : 1 + r3 % 2 = ((1 : Nat) : Int) ∨ 1 + r3 % 2 = ((2 : Nat) : Int) := by omega
    rcases this with e | e <;> rw [e, cut_to]
    · exact ⟨[(("out" : String), ws1)], ⟨⟨by simp, by simp, by simp, by simp [low_out]⟩, by simp [w1]⟩, rfl⟩
    · exact ⟨[(("out" : String), ws1), (nm2, ws2)], ⟨⟨by simp [Ne.symm c4], by simp, by simp, by simp [low_out, c1, c2, c3]⟩, by simp [w1, w2]⟩, rfl⟩
  have hcl : 0 < chs.length := by have := hc.names.ne; simp at this; omega
  have hcs : ∀ c ∈ chs, 0 < c.2.length := fun c h => (hc.signals c h).ne
  have kk : (keysOf names sts).length ≤ 50 := by rw [keysOf, keysFrom_len]; exact hk
  have eks := m_keys names sts hn.le hs
  unfold m__law_program
  walk_at "mir"
  rw [er]
  walk_at "mir"
  simp only [i0, i1, i2]
  walk_at "mir"
  simp only [List.length_map]
  rw [em]
  walk_at "mir"
  rw [oMod_int hm]
  walk_at "mir"
  rw [u1]
  simp only [i0, i1, i2]
  walk_at "mir"
  simp only [List.length_map]
  rw [em']
  walk_at "mir"
  rw [u2]
  have est : (if (r1 % 9 == 8) = true then some (Out.nx [some (S.d (D.int cell)), some (S.d (.tup (names.map .str))), some (S.d (.lst (row.map .int))), some (S.d (.tup (sts2.map dN))), none, none, none, none, none, none, none, none, none]) else some (Out.nx [some (S.d (D.int cell)), some (S.d (.tup (names.map .str))), some (S.d (.lst (row.map .int))), some (S.d (.tup (sts1.map dN))), none, none, none, none, none, none, none, none, none])) =
      some (Out.nx [some (S.d (D.int cell)), some (S.d (.tup (names.map .str))), some (S.d (.lst (row.map .int))), some (S.d (.tup (sts.map dN))), none, none, none, none, none, none, none, none, none]) := by
    rw [← es]
    split <;> rfl
  rw [est]
  walk_at "mir"
  rw [show (210 : Int) = ((210 : Nat) : Int) from rfl, show (214 : Int) = ((214 : Nat) : Int) from rfl, show (218 : Int) = ((218 : Nat) : Int) from rfl]
  simp only [cut_mid, ← List.map_drop, ← List.map_take, Nat.reduceSub]
  rw [m1, m2]
  walk_at "mir"
  rw [i5]
  walk_at "mir"
  rw [ec]
  walk_at "mir"
  rw [i3]
  walk_at "mir"
  rw [ech]
  rw [eks]
  walk_at "mir"
  obtain ⟨⟨rules, j6, j7, j8, j9, j10, j11⟩, e, h1, h2⟩ := for_map (gt := setD 6) (g := b__law_program_1) keyD
    (fun (t : List Rul × Option S × Option S × Option S × Option S × Option S × Option S) => [some (S.d (.int cell)), some (S.d (.tup (names.map .str))), some (S.d (.lst (row.map .int))), some (S.d (.tup (sts.map dN))), some (S.d (.lst (chs.map chD))), some (S.ml (t.1.map rulD)), t.2.1, t.2.2.1, t.2.2.2.1, t.2.2.2.2.1, t.2.2.2.2.2.1, t.2.2.2.2.2.2, none])
    (fun pre t => t.1.map Rul.key = pre ∧ (∀ r ∈ t.1, RulOk chs sts r)) (keysOf names sts) ([], none, none, none, none, none, none) ⟨rfl, by simp⟩ (by
    intro pre key post t hx hP
    obtain ⟨rules, j6, j7, j8, j9, j10, j11⟩ := t
    obtain ⟨h1, h2⟩ := hP
    simp only at h1 h2
    have hkm : key ∈ keysOf names sts := by rw [hx]; simp
    obtain ⟨i, k, k1, k2, k3, k4⟩ := keysFrom_mem hkm
    rw [Nat.zero_add] at k1
    have hlen : rules.length < 50 := by
      have := congrArg List.length hx
      have h3 := congrArg List.length h1
      simp at this h3
      omega
    obtain ⟨r, q1, q2, j7', j8', j9', j10', j11', q3⟩ := rule_turn (names := names) hs hcl hcs hrow.2 (rules := rules) (by have := hrow.1; omega) (by omega) (key := key) (k := k) (by rw [k1]; exact k2) k4 (.int cell) (.tup (names.map .str)) j7 j8 j9 j10 j11
    refine ⟨_, (rules ++ [r], some (S.d (keyD key)), j7', j8', j9', j10', j11'), rfl, .inl q3, ?_, fun x hx => ?_⟩
    · rw [List.map_append, h1, List.map_cons, List.map_nil, q1]
    · rcases List.mem_append.mp hx with hx | hx
      · exact h2 x hx
      · simp only [List.mem_singleton] at hx
        subst hx
        exact q2)
  refine ⟨⟨names, chs, sts, rules⟩, ⟨hn, hc, hs, h1, h2⟩, rfl, ?_⟩
  simp only [List.map_nil] at e
  rw [e]
  walk_at "mir"
  rfl

end K09
namespace K09
open PySem PySem.Spec PyProof.Rows L2 DL
local macro_rules | `(tactic| walk_at "mir") => `(tactic| try simp (implicitDefEqProofs := false) only [runD, startE, endO, List.map_cons, List.map_nil, List.length_cons, List.length_nil, Nat.sub_self, Nat.reduceAdd, Nat.reduceSub, Nat.reduceMul, List.replicate, List.cons_append, List.nil_append, if_pos, R.bind_ok, R.of_some, R.map_ok, Option.bind_some, Option.map_some, withR_ok, seqO_nx, seqO_rt, List.set_cons_zero, List.set_cons_succ, List.getElem?_cons_zero, List.getElem?_cons_succ,
  eC, eOp, lOp, eCmp, bCmp, eNotInD, eUn, lUn, eIsi, eIsi2, eIf, eAnd, eOr, bAnd, bOr, bNot, bVal, eChain, bChain, pNone, pSome, lSl, eSlT, eSlR, aNil, aCons, eTup, lLst, eFz, eAttr, eCall, lCall, lLc, bYes, gsNil, gsCons, gT, iSeq, iR1, iR2, iZip2, iEnm, sNx, sSeq, sSet, sSetF, sSetFz, sAsg, sExpr, sRet, sRetF, sRetOwn, sRetN, sIf, sApp, sIns, sAug, sFor, sFrz, sFldM, sSetM, sPutD, eMelt, lMelt, eMake,
  getD, getB, slotL, slotD, slotM, freeze, setD, rowOf_tup, rowOf_lst, Ret_v_val, Ret_v_frl, Ret_f_frl, oItems_lst, oItems_tup, oIx_lst, oIx_tup, oIx_scr, oLen_lst, oLen_tup, oLen_scr, cInt_int, oAdd_int, oSub_int, oInt_int, oTuple_lst, oTuple_tup, oList_lst, oList_tup, oBl_bl, oNot_bl, oSlL_lst, oSlL_scr, oSlT_tup, oSlR_tup, oSlR_lst, oI_int, oAttr_obj, oAug_int, oSlR_scr, cEq_int, oSeq_lst, oSeq_tup, lcItem, calm_ok, cElt, wipeE, if_true, if_false, Bool.false_eq_true, Bool.true_eq_false, Bool.not_true, Bool.not_false, reduceCtorEq, mkL_ok, oMod_int, oDiv_int, oMul_int, oPow_10_18, Int.reduceLT, Int.reduceLE, Int.reduceNeg, Int.reducePow, Nat.reduceLeDiff, Nat.reduceLT, and_self, true_or, or_true, and_true, true_and, Nat.zero_le, Int.zero_add])
local macro_rules | `(tactic| walk_at "mir*") => `(tactic| try simp (implicitDefEqProofs := false) only [runD, startE, endO, List.map_cons, List.map_nil, List.length_cons, List.length_nil, Nat.sub_self, Nat.reduceAdd, Nat.reduceSub, Nat.reduceMul, List.replicate, List.cons_append, List.nil_append, if_pos, R.bind_ok, R.of_some, R.map_ok, Option.bind_some, Option.map_some, withR_ok, seqO_nx, seqO_rt, List.set_cons_zero, List.set_cons_succ, List.getElem?_cons_zero, List.getElem?_cons_succ,
  eC, eOp, lOp, eCmp, bCmp, eNotInD, eUn, lUn, eIsi, eIsi2, eIf, eAnd, eOr, bAnd, bOr, bNot, bVal, eChain, bChain, pNone, pSome, lSl, eSlT, eSlR, aNil, aCons, eTup, lLst, eFz, eAttr, eCall, lCall, lLc, bYes, gsNil, gsCons, gT, iSeq, iR1, iR2, iZip2, iEnm, sNx, sSeq, sSet, sSetF, sSetFz, sAsg, sExpr, sRet, sRetF, sRetOwn, sRetN, sIf, sApp, sIns, sAug, sFor, sFrz, sFldM, sSetM, sPutD, eMelt, lMelt, eMake,
  getD, getB, slotL, slotD, slotM, freeze, setD, rowOf_tup, rowOf_lst, Ret_v_val, Ret_v_frl, Ret_f_frl, oItems_lst, oItems_tup, oIx_lst, oIx_tup, oIx_scr, oLen_lst, oLen_tup, oLen_scr, cInt_int, oAdd_int, oSub_int, oInt_int, oTuple_lst, oTuple_tup, oList_lst, oList_tup, oBl_bl, oNot_bl, oSlL_lst, oSlL_scr, oSlT_tup, oSlR_tup, oSlR_lst, oI_int, oAttr_obj, oAug_int, oSlR_scr, cEq_int, oSeq_lst, oSeq_tup, lcItem, calm_ok, cElt, wipeE, if_true, if_false, Bool.false_eq_true, Bool.true_eq_false, Bool.not_true, Bool.not_false, reduceCtorEq, mkL_ok, oMod_int, oDiv_int, oMul_int, oPow_10_18, Int.reduceLT, Int.reduceLE, Int.reduceNeg, Int.reducePow, Nat.reduceLeDiff, Nat.reduceLT, and_self, true_or, or_true, and_true, true_and, Nat.zero_le, Int.zero_add, decide_true, decide_false, *])

/-! ### a program is checked -/
theorem m_isrow {d : D} {xs : List D} (h : IsRow d xs) : m_is_row [d] = .ok (.val (.bl true)) := by
  unfold m_is_row
  rcases h with rfl | rfl
  · walk_at "mir"
    rw [isRow_lst]
    walk_at "mir"
  · walk_at "mir"
    rw [isRow_tup]
    walk_at "mir"
theorem m_isrowof {d : D} {xs : List D} (h : IsRow d xs) {a b : Int} (h1 : a ≤ xs.length) (h2 : (xs.length : Int) ≤ b) : m_is_row_of [d, .int a, .int b] = .ok (.val (.bl true)) := by
  have e := m_isrow h
  unfold m_is_row_of
  walk_at "mir"
  rw [e, h.len]
  walk_at "mir"
  simp only [h1, h2, decide_true]
  walk_at "mir"
theorem m_isint (i : Int) : m_is_integer [.int i] = .ok (.val (.bl true)) := by
  unfold m_is_integer
  walk_at "mir"
  rw [isInt_int, isBool_int]
  walk_at "mir"
theorem m_isindex (i n : Int) : m_is_index [.int i, .int n] = .ok (.val (.bl (decide (0 ≤ i ∧ i < n)))) := by
  have e := m_isint i
  unfold m_is_index
  walk_at "mir"
  rw [e]
  walk_at "mir"
  by_cases h1 : 0 ≤ i
  · simp only [h1, decide_true, true_and]
    walk_at "mir"
  · simp only [h1, decide_false, false_and]
    walk_at "mir"
theorem m_isword {w : Str} (h : Low w) (h1 : 1 ≤ w.length) (h8 : w.length ≤ 8) : m_is_word [.str w] = .ok (.val (.bl true)) := by
  have el : oLen (.str w) = some (.int w.length) := if_pos (by omega)
  unfold m_is_word
  walk_at "mir"
  rw [isStr_str]
  walk_at "mir"
  rw [el]
  walk_at "mir"
  simp only [show (1 : Int) ≤ (w.length : Int) by omega, show (w.length : Int) ≤ 8 by omega, decide_true]
  walk_at "mir"
  rw [show oItems (.str w) = some (w.cps.toList.map fun c => D.str ⟨#[c]⟩) from rfl]
  walk_at "mir"
  rw [lc_map (fun c : Nat => D.str ⟨#[c]⟩) (f := fun _ => D.bl true) (by simp; have : w.cps.size = w.length := rfl; omega) (fun c hc => by
    unfold e_is_word_1
    walk_at "mir"
    rw [cInC_low (h c hc)]
    walk_at "mir")]
  walk_at "mir"
  rw [all_true]
  walk_at "mir"
theorem m_asc {d : D} {ns : List Int} (h : IsRow d (ns.map .int)) (hl : ns.length ≤ 1000) (hs : ns.Pairwise (· < ·)) : m_is_ascending [d] = .ok (.val (.bl true)) := by
  have key : ∀ (r : D), oSeq r = some (true, (ns.drop 1).map .int) ∨ oSeq r = some (false, (ns.drop 1).map .int) → oZip2 d r = some ((ns.zip (ns.drop 1)).map fun p => .tup [.int p.1, .int p.2]) := fun r hr => by
    rw [← zip2_map]
    rcases h with rfl | rfl <;> rcases hr with hr | hr <;> simp [oZip2, hr]
  have key2 : ∃ r, oSlR d (some 1) none = some r ∧ (oSeq r = some (true, (ns.drop 1).map .int) ∨ oSeq r = some (false, (ns.drop 1).map .int)) := by
    have e := cut_from (ns.map D.int) 1
    rcases h with rfl | rfl
    · exact ⟨_, rfl, .inl (by show some (true, cut (ns.map D.int) (some ((1 : Nat) : Int)) none) = _; rw [e, List.map_drop])⟩
    · exact ⟨_, rfl, .inr (by show some (false, cut (ns.map D.int) (some ((1 : Nat) : Int)) none) = _; rw [e, List.map_drop])⟩
  obtain ⟨r, e1, e2⟩ := key2
  have e3 := key r e2
  unfold m_is_ascending
  walk_at "mir"
  rw [e1]
  walk_at "mir"
  rw [e3]
  walk_at "mir"
  rw [lc_map (fun p : Int × Int => D.tup [.int p.1, .int p.2]) (f := fun _ => D.bl true) (by simp; omega) (fun p hp => by
    have hlt := asc_zip hs p hp
    unfold e_is_ascending_1
    walk_at "mir"
    simp only [hlt, decide_true])]
  walk_at "mir"
  rw [all_true]
  walk_at "mir"
theorem m_dem (why : D) : m_demand [.bl true, why] = .ok (.val .non) := by
  unfold m_demand
  walk_at "mir"
theorem m_wordsfrom {d : D} {ws : List Str} {most : Nat} (h : IsRow d (ws.map .str)) (hw : WordsOk most ws) (hm : most ≤ 4) : m_words_from [d, .int (most : Int)] = .ok (.val (.tup (ws.map .str))) := by
  have e1 := m_isrowof h (a := 1) (b := (most : Int)) (by have := hw.ne; simp; omega) (by have := hw.le; simp; omega)
  have hl := hw.le
  unfold m_words_from
  walk_at "mir"
  rw [e1]
  walk_at "mir"
  rw [m_dem]
  walk_at "mir"
  rw [h.items]
  walk_at "mir"
  rw [lc_map D.str (f := fun _ => D.bl true) (by omega) (fun w hw' => by
    have hh := hw.word w hw'
    unfold e_words_from_1
    walk_at "mir"
    rw [m_isword hh.1 hh.2.1 hh.2.2]
    walk_at "mir")]
  walk_at "mir"
  rw [all_true]
  walk_at "mir"
  rw [m_dem]
  walk_at "mir"
  rw [lenSet_ok h hw.nd (by omega), h.len]
  walk_at "mir"
  simp only [List.length_map, beq_self_eq_true]
  rw [m_dem]
  walk_at "mir"
  rw [h.tuple]
  walk_at "mir"
theorem m_channelsfrom {d : D} {chs : List (Str × List Str)} (h : IsRow d (chs.map chD)) (hc : ChsOk chs) : m_channels_from [d] = .ok (.val (.tup (chs.map chD))) := by
  have h1 := hc.names.ne
  have h2 := hc.names.le
  simp only [List.length_map] at h1 h2
  have e1 := m_isrowof h (a := 1) (b := 2) (by simp; omega) (by simp; omega)
  unfold m_channels_from
  walk_at "mir"
  rw [e1]
  walk_at "mir"
  rw [m_dem]
  walk_at "mir"
  rw [h.items]
  walk_at "mir"
  rw [lc_map chD (f := fun _ => D.bl true) (by omega) (fun c hc' => by
    unfold e_channels_from_1
    walk_at "mir"
    rw [m_isrowof (.inr rfl) (by simp) (by simp)]
    walk_at "mir")]
  walk_at "mir"
  rw [all_true]
  walk_at "mir"
  rw [m_dem]
  walk_at "mir"
  rw [h.items]
  walk_at "mir"
  rw [lc_map chD (f := fun c => D.str c.1) (by omega) (fun c hc' => by
    unfold e_channels_from_2
    walk_at "mir"
    rw [show atI [D.str c.1, .tup (c.2.map .str)] 0 = some (.str c.1) from atI_ofNat _ 0]
    walk_at "mir")]
  walk_at "mir"
  rw [show (chs.map fun c => D.str c.1) = (chs.map (·.1)).map D.str by simp, show m_words_from [D.lst ((chs.map (·.1)).map D.str), .int 2] = .ok (.val (.tup ((chs.map (·.1)).map .str))) from m_wordsfrom (most := 2) (.inl rfl) hc.names (by decide)]
  walk_at "mir"
  have ez : oZip2 (.tup ((chs.map (·.1)).map .str)) d = some (chs.map fun c => .tup [.str c.1, chD c]) := by
    have : ∀ l : List (Str × List Str), zip2 ((l.map (·.1)).map D.str) (l.map chD) = l.map fun c => .tup [.str c.1, chD c] := fun l => by
      induction l with
      | nil => rfl
      | cons a r ih => simp only [List.map_cons, zip2, ih]
    rcases h with rfl | rfl <;> simp only [oZip2, oSeq_tup, oSeq_lst, Option.bind_some, Option.map_some, this]
  rw [ez]
  walk_at "mir"
  rw [lc_map (fun c : Str × List Str => D.tup [.str c.1, chD c]) (f := chD) (by omega) (fun c hc' => by
    unfold e_channels_from_3
    walk_at "mir"
    rw [show atI [D.str c.1, .tup (c.2.map .str)] 1 = some (.tup (c.2.map .str)) from atI_ofNat _ 1]
    walk_at "mir"
    rw [show m_words_from [D.tup (c.2.map .str), .int 4] = .ok (.val (.tup (c.2.map .str))) from m_wordsfrom (most := 4) (.inr rfl) (hc.signals c hc') (by decide)]
    walk_at "mir")]
  walk_at "mir"
theorem m_statesfrom {d : D} {sts : List Nat} (h : IsRow d (sts.map dN)) (hs : StsOk sts) : m_states_from [d] = .ok (.val (.tup (sts.map dN))) := by
  have h0 : 0 < sts.length := (List.getElem?_eq_some_iff.mp hs.zero).1
  have h1 := hs.le
  have e1 := m_isrowof h (a := 1) (b := 10) (by simp; omega) (by simp; omega)
  unfold m_states_from
  walk_at "mir"
  rw [e1]
  walk_at "mir"
  rw [m_dem]
  walk_at "mir"
  rw [h.items]
  walk_at "mir"
  rw [lc_map dN (f := fun _ => D.bl true) (by omega) (fun k hk => by
    have h4 := hs.four k hk
    unfold e_states_from_1
    walk_at "mir"
    rw [m_isindex, decide_eq_true (by omega : (0 : Int) ≤ (k : Int) ∧ (k : Int) < 4 + 1)]
    walk_at "mir")]
  walk_at "mir"
  rw [all_true]
  walk_at "mir"
  rw [m_dem]
  walk_at "mir"
  rw [h.ix, at_map (i := 0) (k := 0) rfl hs.zero]
  walk_at "mir"
  rw [show (((0 : Nat) : Int) == 0) = true from rfl, m_dem]
  walk_at "mir"
  rw [h.tuple]
  walk_at "mir"
theorem m_sourcesfrom {d : D} {src : List Nat} {cand many : Nat} (h : IsRow d (src.map dN)) (hs : SrcOk cand many src) (hm : many ≤ 4) : m_sources_from [d, dN many, dN cand] = .ok (.val (.tup (src.map dN))) := by
  have hl := hs.len
  have e1 := m_isrowof h (a := (many : Int)) (b := (many : Int)) (by simp; omega) (by simp; omega)
  have h' : IsRow d ((src.map fun (n : Nat) => (n : Int)).map D.int) := by rw [List.map_map]; exact h
  have e2 := m_asc h' (by simp; omega) (List.Pairwise.map _ (fun a b (hab : a < b) => by omega) hs.asc)
  unfold m_sources_from
  walk_at "mir"
  rw [e1]
  walk_at "mir"
  rw [m_dem]
  walk_at "mir"
  rw [h.items]
  walk_at "mir"
  rw [lc_map dN (f := fun _ => D.bl true) (by omega) (fun k hk => by
    have h4 := hs.lt k hk
    unfold e_sources_from_1
    walk_at "mir"
    rw [m_isindex, decide_eq_true (by omega : (0 : Int) ≤ (k : Int) ∧ (k : Int) < (cand : Int))]
    walk_at "mir")]
  walk_at "mir"
  rw [all_true]
  walk_at "mir"
  rw [m_dem]
  walk_at "mir"
  rw [e2]
  walk_at "mir"
  rw [m_dem]
  walk_at "mir"
  rw [h.tuple]
  walk_at "mir"

end K09
namespace K09
open PySem PySem.Spec PyProof.Rows L2 DL
local macro_rules | `(tactic| walk_at "mir") => `(tactic| try simp (implicitDefEqProofs := false) only [runD, startE, endO, List.map_cons, List.map_nil, List.length_cons, List.length_nil, Nat.sub_self, Nat.reduceAdd, Nat.reduceSub, Nat.reduceMul, List.replicate, List.cons_append, List.nil_append, if_pos, R.bind_ok, R.of_some, R.map_ok, Option.bind_some, Option.map_some, withR_ok, seqO_nx, seqO_rt, List.set_cons_zero, List.set_cons_succ, List.getElem?_cons_zero, List.getElem?_cons_succ,
  eC, eOp, lOp, eCmp, bCmp, eNotInD, eUn, lUn, eIsi, eIsi2, eIf, eAnd, eOr, bAnd, bOr, bNot, bVal, eChain, bChain, pNone, pSome, lSl, eSlT, eSlR, aNil, aCons, eTup, lLst, eFz, eAttr, eCall, lCall, lLc, bYes, gsNil, gsCons, gT, iSeq, iR1, iR2, iZip2, iEnm, sNx, sSeq, sSet, sSetF, sSetFz, sAsg, sExpr, sRet, sRetF, sRetOwn, sRetN, sIf, sApp, sIns, sAug, sFor, sFrz, sFldM, sSetM, sPutD, eMelt, lMelt, eMake,
  getD, getB, slotL, slotD, slotM, freeze, setD, rowOf_tup, rowOf_lst, Ret_v_val, Ret_v_frl, Ret_f_frl, oItems_lst, oItems_tup, oIx_lst, oIx_tup, oIx_scr, oLen_lst, oLen_tup, oLen_scr, cInt_int, oAdd_int, oSub_int, oInt_int, oTuple_lst, oTuple_tup, oList_lst, oList_tup, oBl_bl, oNot_bl, oSlL_lst, oSlL_scr, oSlT_tup, oSlR_tup, oSlR_lst, oI_int, oAttr_obj, oAug_int, oSlR_scr, cEq_int, oSeq_lst, oSeq_tup, lcItem, calm_ok, cElt, wipeE, if_true, if_false, Bool.false_eq_true, Bool.true_eq_false, Bool.not_true, Bool.not_false, reduceCtorEq, mkL_ok, oMod_int, oDiv_int, oMul_int, oPow_10_18, Int.reduceLT, Int.reduceLE, Int.reduceNeg, Int.reducePow, Nat.reduceLeDiff, Nat.reduceLT, and_self, true_or, or_true, and_true, true_and, Nat.zero_le, Int.zero_add])
local macro_rules | `(tactic| walk_at "mir*") => `(tactic| try simp (implicitDefEqProofs := false) only [runD, startE, endO, List.map_cons, List.map_nil, List.length_cons, List.length_nil, Nat.sub_self, Nat.reduceAdd, Nat.reduceSub, Nat.reduceMul, List.replicate, List.cons_append, List.nil_append, if_pos, R.bind_ok, R.of_some, R.map_ok, Option.bind_some, Option.map_some, withR_ok, seqO_nx, seqO_rt, List.set_cons_zero, List.set_cons_succ, List.getElem?_cons_zero, List.getElem?_cons_succ,
  eC, eOp, lOp, eCmp, bCmp, eNotInD, eUn, lUn, eIsi, eIsi2, eIf, eAnd, eOr, bAnd, bOr, bNot, bVal, eChain, bChain, pNone, pSome, lSl, eSlT, eSlR, aNil, aCons, eTup, lLst, eFz, eAttr, eCall, lCall, lLc, bYes, gsNil, gsCons, gT, iSeq, iR1, iR2, iZip2, iEnm, sNx, sSeq, sSet, sSetF, sSetFz, sAsg, sExpr, sRet, sRetF, sRetOwn, sRetN, sIf, sApp, sIns, sAug, sFor, sFrz, sFldM, sSetM, sPutD, eMelt, lMelt, eMake,
  getD, getB, slotL, slotD, slotM, freeze, setD, rowOf_tup, rowOf_lst, Ret_v_val, Ret_v_frl, Ret_f_frl, oItems_lst, oItems_tup, oIx_lst, oIx_tup, oIx_scr, oLen_lst, oLen_tup, oLen_scr, cInt_int, oAdd_int, oSub_int, oInt_int, oTuple_lst, oTuple_tup, oList_lst, oList_tup, oBl_bl, oNot_bl, oSlL_lst, oSlL_scr, oSlT_tup, oSlR_tup, oSlR_lst, oI_int, oAttr_obj, oAug_int, oSlR_scr, cEq_int, oSeq_lst, oSeq_tup, lcItem, calm_ok, cElt, wipeE, if_true, if_false, Bool.false_eq_true, Bool.true_eq_false, Bool.not_true, Bool.not_false, reduceCtorEq, mkL_ok, oMod_int, oDiv_int, oMul_int, oPow_10_18, Int.reduceLT, Int.reduceLE, Int.reduceNeg, Int.reducePow, Nat.reduceLeDiff, Nat.reduceLT, and_self, true_or, or_true, and_true, true_and, Nat.zero_le, Int.zero_add, decide_true, decide_false, *])

theorem find_ch {chs : List (Str × List Str)} (nd : (chs.map (·.1)).Nodup) {c : Str × List Str} (h : c ∈ chs) : chs.find? (fun x => x.1 == c.1) = some c := by
  induction chs with
  | nil => cases h
  | cons a r ih =>
    rw [List.map_cons, List.nodup_cons] at nd
    rcases List.mem_cons.mp h with rfl | h
    · simp [List.find?]
    · have : (a.1 == c.1) = false := by
        simp only [beq_eq_false_iff_ne, ne_eq]
        intro e
        exact nd.1 (e ▸ List.mem_map_of_mem h)
      rw [List.find?, this]
      exact ih nd.2 h
theorem m_signalsof {n : Str} {fs : List (Str × D)} {names : List Str} {chs : List (Str × List Str)} {sts : List Nat} (hf : Fields fs names chs sts) (hc : ChsOk chs) {c : Str × List Str} (h : c ∈ chs) : m_signals_of [.obj n fs, .str c.1] = .ok (.val (.tup (c.2.map .str))) := by
  unfold m_signals_of
  walk_at "mir"
  rw [hf.chs]
  walk_at "mir"
  have lc : Low c.1 := (hc.names.word _ (List.mem_map_of_mem h)).1
  rcases for_find (gt := gT 2 (gsCons (setD 2) (gsCons (setD 3) gsNil))) (g := b_signals_of_1) chD (fun ρ => ∃ j2 j3 : Option S, ρ = [some (S.d (.obj n fs)), some (S.d (.str c.1)), j2, j3]) (fun x => x.1 == c.1) (fun x => .val (.tup (x.2.map .str))) chs (fun x hx ρ => by
    rintro ⟨j2, j3, rfl⟩
    have lx : Low x.1 := (hc.names.word _ (List.mem_map_of_mem hx)).1
    refine ⟨[some (S.d (.obj n fs)), some (S.d (.str c.1)), some (S.d (.str x.1)), some (S.d (.tup (x.2.map .str)))], rfl, fun hp => ?_, fun hp => ⟨_, ?_, some (S.d (.str x.1)), some (S.d (.tup (x.2.map .str))), rfl⟩⟩
    · unfold b_signals_of_1
      walk_at "mir"
      rw [cEq_str lx.ok lc.ok, hp]
      walk_at "mir"
    · unfold b_signals_of_1
      walk_at "mir"
      rw [cEq_str lx.ok lc.ok, hp]
      walk_at "mir") _ ⟨none, none, rfl⟩ with ⟨x, e1, e2⟩ | ⟨e1, _⟩
  · rw [find_ch hc.names.nd h] at e1
    cases e1
    rw [e2]
    walk_at "mir"
  · rw [find_ch hc.names.nd h] at e1
    cases e1
theorem m_outputfrom {n : Str} {fs : List (Str × D)} {names : List Str} {chs : List (Str × List Str)} {sts : List Nat} (hf : Fields fs names chs sts) (hc : ChsOk chs) {cand : Nat} {t : Tri} (h : (∃ c ∈ chs, t.1 = c.1 ∧ t.2.1 ∈ c.2) ∧ t.2.2 < cand) :
    m_output_from [.obj n fs, triD t, dN cand] = .ok (.val (triD t)) := by
  obtain ⟨ch, sg, ix⟩ := t
  obtain ⟨⟨c, h1, h2, h3⟩, h4⟩ := h
  simp only at h2 h3 h4
  subst h2
  unfold m_output_from
  walk_at "mir"
  rw [m_isrowof (.inr rfl) (by simp) (by simp)]
  walk_at "mir"
  rw [m_dem]
  walk_at "mir"
  rw [m_signalsof hf hc h1]
  walk_at "mir"
  rw [cInS_tup, decide_eq_true h3]
  walk_at "mir"
  rw [m_dem]
  walk_at "mir"
  rw [m_isindex, decide_eq_true (by omega : (0 : Int) ≤ (ix : Int) ∧ (ix : Int) < (cand : Int))]
  walk_at "mir"
  rw [m_dem]
  walk_at "mir"
theorem m_outputsfrom {n : Str} {fs : List (Str × D)} {names : List Str} {chs : List (Str × List Str)} {sts : List Nat} (hf : Fields fs names chs sts) (hc : ChsOk chs) {cand : Nat} {outs : List Tri} (h : OutsOk chs cand outs) {d : D} (hd : IsRow d (outs.map triD)) :
    m_outputs_from [.obj n fs, d, dN cand] = .ok (.val (.tup (outs.map triD))) := by
  have hl := h.le
  unfold m_outputs_from
  walk_at "mir"
  rw [m_isrowof hd (by simp) (by simp; omega)]
  walk_at "mir"
  rw [m_dem]
  walk_at "mir"
  rw [hd.items]
  walk_at "mir"
  rw [lc_map triD (f := triD) (by omega) (fun t ht => by
    unfold e_outputs_from_1
    walk_at "mir"
    rw [m_outputfrom hf hc (h.ok t ht)]
    walk_at "mir")]
  walk_at "mir"
theorem m_positions (k : Nat) : m_positions_among [dN k] = .ok (.val (dN (2 * k + 1))) := by
  unfold m_positions_among
  walk_at "mir"
  rw [show (2 : Int) * (k : Int) + 1 = ((2 * k + 1 : Nat) : Int) by omega]
theorem m_candidates (k p : Nat) : m_candidates_at [dN k, dN p] = .ok (.val (dN (candN k p))) := by
  unfold m_candidates_at
  walk_at "mir"
  by_cases h : (p : Int) % 2 = 1
  · simp only [h, beq_self_eq_true]
    walk_at "mir"
    rw [show candN k p = k from if_pos (by omega)]
  · have hb : ((p : Int) % 2 == 1) = false := by simpa using h
    simp only [hb]
    walk_at "mir"
    rw [show candN k p = k + 1 from if_neg (by omega)]
    rfl
theorem m_rulefrom {n : Str} {fs : List (Str × D)} {names : List Str} {chs : List (Str × List Str)} {sts : List Nat} (hf : Fields fs names chs sts) (hc : ChsOk chs) (hs : StsOk sts) {r : Rul} (h : RulOk chs sts r) (hn : r.nm ∈ names) :
    m_rule_from [.obj n fs, rulD r] = .ok (.val (rulD r)) := by
  obtain ⟨k, t, h1, h2, h3, h4, h5⟩ := h
  have k1 : r.st < sts.length := (List.getElem?_eq_some_iff.mp h1).1
  have k2 : r.tg < sts.length := (List.getElem?_eq_some_iff.mp h2).1
  have t4 : t ≤ 4 := hs.four t (List.mem_of_getElem? h2)
  unfold m_rule_from
  walk_at "mir"
  rw [m_isrowof (.inr rfl) (by simp) (by simp)]
  walk_at "mir"
  rw [m_dem]
  walk_at "mir"
  rw [hf.sts]
  walk_at "mir"
  simp only [List.length_map]
  rw [m_isindex, decide_eq_true (by omega : (0 : Int) ≤ (r.st : Int) ∧ (r.st : Int) < (sts.length : Int))]
  walk_at "mir"
  rw [m_dem]
  walk_at "mir"
  rw [hf.names]
  walk_at "mir"
  rw [cInS_tup, decide_eq_true hn]
  walk_at "mir"
  rw [m_dem]
  walk_at "mir"
  rw [hf.sts]
  walk_at "mir"
  rw [at_map (i := (r.st : Int)) rfl h1]
  walk_at "mir"
  rw [m_positions]
  walk_at "mir"
  rw [m_isindex, decide_eq_true (by omega : (0 : Int) ≤ (r.pos : Int) ∧ (r.pos : Int) < ((2 * k + 1 : Nat) : Int))]
  walk_at "mir"
  rw [m_dem]
  walk_at "mir"
  rw [hf.sts]
  walk_at "mir"
  simp only [List.length_map]
  rw [m_isindex, decide_eq_true (by omega : (0 : Int) ≤ (r.tg : Int) ∧ (r.tg : Int) < (sts.length : Int))]
  walk_at "mir"
  rw [m_dem]
  walk_at "mir"
  rw [m_candidates]
  walk_at "mir"
  rw [hf.sts]
  walk_at "mir"
  rw [at_map (i := (r.tg : Int)) rfl h2]
  walk_at "mir"
  rw [m_sourcesfrom (.inr rfl) h4 t4]
  walk_at "mir"
  rw [m_outputsfrom hf hc h5 (.inr rfl)]
  walk_at "mir"
theorem m_tablefrom {n : Str} {fs : List (Str × D)} {names : List Str} {chs : List (Str × List Str)} {sts : List Nat} (hf : Fields fs names chs sts) (hc : ChsOk chs) (hs : StsOk sts) {rules : List Rul} (h : ∀ r ∈ rules, RulOk chs sts r ∧ r.nm ∈ names) (nd : (rules.map Rul.key).Nodup) (hl : rules.length ≤ 10000) {d : D} (hd : IsRow d (rules.map rulD)) :
    m_table_from [.obj n fs, d] = .ok (.val (.dct (rules.map fun r => (keyK r.key, rulD r)))) := by
  unfold m_table_from
  walk_at "mir"
  rw [m_isrow hd]
  walk_at "mir"
  rw [m_dem]
  walk_at "mir"
  rw [hd.items]
  walk_at "mir"
  obtain ⟨⟨done, j3, j4⟩, e, h1⟩ := for_map (gt := setD 3) (g := b_table_from_1) rulD
    (fun (t : List Rul × Option S × Option S) => [some (S.d (.obj n fs)), some (S.d d), some (S.md (t.1.map fun r => (keyK r.key, rulD r))), t.2.1, t.2.2])
    (fun pre t => t.1 = pre) rules ([], none, none) rfl (by
    intro pre r post t hx hP
    obtain ⟨done, j3, j4⟩ := t
    simp only at hP
    subst hP
    have hr : r ∈ rules := by rw [hx]; simp
    have hnew : r.key ∉ done.map Rul.key := by
      rw [hx, List.map_append, List.map_cons, List.nodup_append] at nd
      intro hm
      exact nd.2.2 _ hm _ List.mem_cons_self rfl
    have hdl : done.length ≤ 10000 := by
      have := congrArg List.length hx
      simp at this
      omega
    refine ⟨_, (done ++ [r], some (S.d (rulD r)), some (S.d (rulD r))), rfl, .inl ?_, rfl⟩
    unfold b_table_from_1
    walk_at "mir"
    rw [m_rulefrom hf hc hs (h r hr).1 (h r hr).2]
    walk_at "mir"
    rw [show cut [dN r.st, .str r.nm, dN r.pos, dN r.tg, .tup (r.src.map dN), .tup (r.outs.map triD)] none (some 3) = [dN r.st, .str r.nm, dN r.pos] from cut_to _ 3]
    have ei : cInD (.tup [dN r.st, .str r.nm, dN r.pos]) (.dct (done.map fun r => (keyK r.key, rulD r))) = some false := by
      rw [cInD_tup, show keys? [dN r.st, .str r.nm, dN r.pos] = some (keyK r.key) from rfl]
      simp only [Option.map_some, look_none hnew, Option.isSome_none]
    rw [ei]
    walk_at "mir"
    rw [m_dem]
    walk_at "mir"
    rw [show cut [dN r.st, .str r.nm, dN r.pos, dN r.tg, .tup (r.src.map dN), .tup (r.outs.map triD)] none (some 3) = [dN r.st, .str r.nm, dN r.pos] from cut_to _ 3]
    rw [show keyT (.tup [dN r.st, .str r.nm, dN r.pos]) = some (keyK r.key) from rfl]
    walk_at "mir"
    simp only [List.length_map, show done.length < 16777216 by omega, if_true]
    have ep : putE (done.map fun r => (keyK r.key, rulD r)) (keyK r.key) (rulD r) = (done ++ [r]).map fun r => (keyK r.key, rulD r) := by
      unfold putE
      rw [if_neg]
      · simp
      · intro hc
        obtain ⟨x, hx, he⟩ := List.any_eq_true.mp hc
        obtain ⟨r', hr', rfl⟩ := List.mem_map.mp hx
        have he := of_decide_eq_true he
        exact hnew (List.mem_map.mpr ⟨r', hr', keyK_inj he⟩)
    rw [ep])
  simp only at h1
  subst h1
  simp only [List.map_nil] at e
  rw [e]
  walk_at "mir"
theorem sit_key {n : Str} {fs : List (Str × D)} {names : List Str} {chs : List (Str × List Str)} {sts : List Nat} (hf : Fields fs names chs sts) : ∀ (l : List Nat) (s : Nat), (∀ k ∈ l, k ≤ 4) → lcN (gT 2 (gsCons (setD 1) (gsCons (setD 2) gsNil))) bYes (cNext (iSeq (eAttr "names" (getB 0))) [3, 4] (lcN (setD 3) bYes (cNext (iR1 (eCall m_positions_among (aCons (getD 2) aNil))) [4] (lcN (setD 4) bYes (cElt (eTup (aCons (getD 1) (aCons (getD 3) (aCons (getD 4) aNil)))))))))
      [some (S.d (.obj n fs)), none, none, none, none] (enumD s (l.map dN)) = some ((keysFrom names s l).map keyD) := by
  intro l
  induction l with
  | nil => intro s _; rfl
  | cons k r ih =>
    intro s h4
    have k4 := h4 k List.mem_cons_self
    have ih := ih (s + 1) fun x hx => h4 x (List.mem_cons_of_mem _ hx)
    rw [List.map_cons]
    unfold enumD
    unfold lcN
    have e1 : cNext (iSeq (eAttr "names" (getB 0))) [3, 4] (lcN (setD 3) bYes (cNext (iR1 (eCall m_positions_among (aCons (getD 2) aNil))) [4] (lcN (setD 4) bYes (cElt (eTup (aCons (getD 1) (aCons (getD 3) (aCons (getD 4) aNil))))))))
        [some (S.d (.obj n fs)), some (S.d (dN s)), some (S.d (dN k)), none, none] = some ((ksAt names k s).map keyD) := by
      unfold cNext
      walk_at "mir"
      rw [hf.names]
      walk_at "mir"
      rw [lcN_flat D.str (f := fun nm => ((List.range (2 * k + 1)).map fun p => (s, nm, p)).map keyD) (fun nm _ => by
        walk_at "mir"
        rw [m_positions]
        walk_at "mir"
        rw [oRg1_nat (by omega)]
        walk_at "mir"
        rw [lcN_flat (fun i : Nat => D.int (i : Int)) (f := fun p => [keyD (s, nm, p)]) (fun p _ => by
          walk_at "mir")]
        simp only [List.map_map, ← List.map_eq_flatMap]
        rfl)]
      unfold ksAt
      rw [List.map_flatMap]
    walk_at "mir"
    rw [e1, ih]
    simp only [Option.bind_some, Option.map_some, keysFrom, List.map_append]
theorem sit_len {names : List Str} {sts : List Nat} (hn : names.length ≤ 4) (hs : StsOk sts) : ((keysOf names sts).map keyD).length ≤ 16777216 := by
  have hl := hs.le
  rw [List.length_map, keysOf, keysFrom_len]
  have h1 : ∀ l : List Nat, (∀ k ∈ l, k ≤ 4) → (l.map fun k => 2 * k + 1).sum ≤ 9 * l.length := fun l => by
    induction l with
    | nil => intro _; simp
    | cons a r ih =>
      intro h
      have := ih fun x hx => h x (List.mem_cons_of_mem _ hx)
      have := h a List.mem_cons_self
      simp only [List.map_cons, List.sum_cons, List.length_cons]
      omega
  have h2 := h1 sts hs.four
  have h3 := Nat.mul_le_mul hn h2
  omega
theorem sit_lcB {n : Str} {fs : List (Str × D)} {names : List Str} {chs : List (Str × List Str)} {sts : List Nat} (hf : Fields fs names chs sts) (hn : names.length ≤ 4) (hs : StsOk sts) (ρ : DL.Env) (hρ : ρ = [some (S.d (.obj n fs)), none, none, none, none]) : lcB (lcN (gT 2 (gsCons (setD 1) (gsCons (setD 2) gsNil))) bYes (cNext (iSeq (eAttr "names" (getB 0))) [3, 4] (lcN (setD 3) bYes (cNext (iR1 (eCall m_positions_among (aCons (getD 2) aNil))) [4] (lcN (setD 4) bYes (cElt (eTup (aCons (getD 1) (aCons (getD 3) (aCons (getD 4) aNil))))))))))
      [1, 2, 3, 4] [1, 2, 3, 4] ρ (enumD 0 (sts.map dN)) = some ((keysOf names sts).map keyD) := by
  subst hρ
  have e := sit_key (n := n) hf sts 0 hs.four
  unfold lcB
  rw [show wipeE (wipeE [some (S.d (.obj n fs)), none, none, none, none] [1, 2, 3, 4]) [1, 2, 3, 4] = [some (S.d (.obj n fs)), none, none, none, none] from rfl, e, Option.bind_some, if_pos (sit_len hn hs)]
theorem m_situations {n : Str} {fs : List (Str × D)} {names : List Str} {chs : List (Str × List Str)} {sts : List Nat} (hf : Fields fs names chs sts) (hn : names.length ≤ 4) (hs : StsOk sts) :
    m_situations_of [.obj n fs] = .ok (.frl ((keysOf names sts).map keyD)) := by
  unfold m_situations_of
  walk_at "mir"
  simp only [lLcN]
  walk_at "mir"
  rw [hf.sts]
  simp only [R.of_some, R.bind_ok, oEnum, oSeq_tup, Option.map_some]
  rw [sit_lcB hf hn hs _ rfl]
  walk_at "mir"

end K09
namespace K09
open PySem PySem.Spec PyProof.Rows L2 DL
local macro_rules | `(tactic| walk_at "mir") => `(tactic| try simp (implicitDefEqProofs := false) only [runD, startE, endO, List.map_cons, List.map_nil, List.length_cons, List.length_nil, Nat.sub_self, Nat.reduceAdd, Nat.reduceSub, Nat.reduceMul, List.replicate, List.cons_append, List.nil_append, if_pos, R.bind_ok, R.of_some, R.map_ok, Option.bind_some, Option.map_some, withR_ok, seqO_nx, seqO_rt, List.set_cons_zero, List.set_cons_succ, List.getElem?_cons_zero, List.getElem?_cons_succ,
  eC, eOp, lOp, eCmp, bCmp, eNotInD, eUn, lUn, eIsi, eIsi2, eIf, eAnd, eOr, bAnd, bOr, bNot, bVal, eChain, bChain, pNone, pSome, lSl, eSlT, eSlR, aNil, aCons, eTup, lLst, eFz, eAttr, eCall, lCall, lLc, bYes, gsNil, gsCons, gT, iSeq, iR1, iR2, iZip2, iEnm, sNx, sSeq, sSet, sSetF, sSetFz, sAsg, sExpr, sRet, sRetF, sRetOwn, sRetN, sIf, sApp, sIns, sAug, sFor, sFrz, sFldM, sSetM, sPutD, eMelt, lMelt, eMake,
  getD, getB, slotL, slotD, slotM, freeze, setD, rowOf_tup, rowOf_lst, Ret_v_val, Ret_v_frl, Ret_f_frl, oItems_lst, oItems_tup, oIx_lst, oIx_tup, oIx_scr, oLen_lst, oLen_tup, oLen_scr, cInt_int, oAdd_int, oSub_int, oInt_int, oTuple_lst, oTuple_tup, oList_lst, oList_tup, oBl_bl, oNot_bl, oSlL_lst, oSlL_scr, oSlT_tup, oSlR_tup, oSlR_lst, oI_int, oAttr_obj, oAug_int, oSlR_scr, cEq_int, oSeq_lst, oSeq_tup, lcItem, calm_ok, cElt, wipeE, if_true, if_false, Bool.false_eq_true, Bool.true_eq_false, Bool.not_true, Bool.not_false, reduceCtorEq, mkL_ok, oMod_int, oDiv_int, oMul_int, oPow_10_18, Int.reduceLT, Int.reduceLE, Int.reduceNeg, Int.reducePow, Nat.reduceLeDiff, Nat.reduceLT, and_self, true_or, or_true, and_true, true_and, Nat.zero_le, Int.zero_add])
local macro_rules | `(tactic| walk_at "mir*") => `(tactic| try simp (implicitDefEqProofs := false) only [runD, startE, endO, List.map_cons, List.map_nil, List.length_cons, List.length_nil, Nat.sub_self, Nat.reduceAdd, Nat.reduceSub, Nat.reduceMul, List.replicate, List.cons_append, List.nil_append, if_pos, R.bind_ok, R.of_some, R.map_ok, Option.bind_some, Option.map_some, withR_ok, seqO_nx, seqO_rt, List.set_cons_zero, List.set_cons_succ, List.getElem?_cons_zero, List.getElem?_cons_succ,
  eC, eOp, lOp, eCmp, bCmp, eNotInD, eUn, lUn, eIsi, eIsi2, eIf, eAnd, eOr, bAnd, bOr, bNot, bVal, eChain, bChain, pNone, pSome, lSl, eSlT, eSlR, aNil, aCons, eTup, lLst, eFz, eAttr, eCall, lCall, lLc, bYes, gsNil, gsCons, gT, iSeq, iR1, iR2, iZip2, iEnm, sNx, sSeq, sSet, sSetF, sSetFz, sAsg, sExpr, sRet, sRetF, sRetOwn, sRetN, sIf, sApp, sIns, sAug, sFor, sFrz, sFldM, sSetM, sPutD, eMelt, lMelt, eMake,
  getD, getB, slotL, slotD, slotM, freeze, setD, rowOf_tup, rowOf_lst, Ret_v_val, Ret_v_frl, Ret_f_frl, oItems_lst, oItems_tup, oIx_lst, oIx_tup, oIx_scr, oLen_lst, oLen_tup, oLen_scr, cInt_int, oAdd_int, oSub_int, oInt_int, oTuple_lst, oTuple_tup, oList_lst, oList_tup, oBl_bl, oNot_bl, oSlL_lst, oSlL_scr, oSlT_tup, oSlR_tup, oSlR_lst, oI_int, oAttr_obj, oAug_int, oSlR_scr, cEq_int, oSeq_lst, oSeq_tup, lcItem, calm_ok, cElt, wipeE, if_true, if_false, Bool.false_eq_true, Bool.true_eq_false, Bool.not_true, Bool.not_false, reduceCtorEq, mkL_ok, oMod_int, oDiv_int, oMul_int, oPow_10_18, Int.reduceLT, Int.reduceLE, Int.reduceNeg, Int.reducePow, Nat.reduceLeDiff, Nat.reduceLT, and_self, true_or, or_true, and_true, true_and, Nat.zero_le, Int.zero_add, decide_true, decide_false, *])

theorem rule_of_key {rules : List Rul} (nd : (rules.map Rul.key).Nodup) {a b : Rul} (ha : a ∈ rules) (hb : b ∈ rules) (h : a.key = b.key) : a = b := by
  induction rules with
  | nil => cases ha
  | cons x r ih =>
    rw [List.map_cons, List.nodup_cons] at nd
    rcases List.mem_cons.mp ha with ea | ha'
    · rcases List.mem_cons.mp hb with eb | hb'
      · rw [ea, eb]
      · rw [ea] at h; exact absurd (h ▸ List.mem_map_of_mem hb') nd.1
    · rcases List.mem_cons.mp hb with eb | hb'
      · rw [eb] at h; exact absurd (h ▸ List.mem_map_of_mem ha') nd.1
      · exact ih nd.2 ha' hb'
theorem m_prog {p : Prog} (hp : ProgOk p) {rs : List Rul} (perm : rs.Perm p.rules) {d1 d2 d3 d4 : D} (h1 : IsRow d1 (p.names.map .str)) (h2 : IsRow d2 (p.chs.map chD)) (h3 : IsRow d3 (p.sts.map dN)) (h4 : IsRow d4 (rs.map rulD)) :
    m_Program [d1, d2, d3, d4] = .ok (progFields p rs) := by
  have nd : (p.rules.map Rul.key).Nodup := by rw [hp.keys]; exact keysFrom_nodup hp.names.nd _ _
  have nds : (rs.map Rul.key).Nodup := ((perm.map Rul.key).nodup_iff).mpr nd
  have hall : ∀ r ∈ rs, RulOk p.chs p.sts r ∧ r.nm ∈ p.names := fun r hr => by
    have hr := perm.mem_iff.mp hr
    refine ⟨hp.rules r hr, ?_⟩
    have hk : r.key ∈ keysOf p.names p.sts := by rw [← hp.keys]; exact List.mem_map_of_mem hr
    obtain ⟨_, _, _, _, h, _⟩ := keysFrom_mem hk
    exact h
  have hlen : rs.length = (keysOf p.names p.sts).length := by rw [perm.length_eq, ← hp.keys, List.length_map]
  have hbig : rs.length ≤ 10000 := by
    have := sit_len hp.names.le hp.sts
    rw [List.length_map] at this
    rw [hlen, keysOf, keysFrom_len]
    have h1 : ∀ l : List Nat, (∀ k ∈ l, k ≤ 4) → (l.map fun k => 2 * k + 1).sum ≤ 9 * l.length := fun l => by
      induction l with
      | nil => intro _; simp
      | cons a r ih =>
        intro h
        have := ih fun x hx => h x (List.mem_cons_of_mem _ hx)
        have := h a List.mem_cons_self
        simp only [List.map_cons, List.sum_cons, List.length_cons]
        omega
    have h2 := h1 p.sts hp.sts.four
    have h3 := Nat.mul_le_mul hp.names.le h2
    have h4 := hp.sts.le
    omega
  refine runI_eq fun a => ?_
  unfold coreI
  have k1 : ∀ f : Str, f ∈ all_Program → ∀ fs : List (Str × D), fs.length ≤ 5 → (f ∈ all_Program ∧ fs.length < 1000) := fun f hf fs hl => ⟨hf, by omega⟩
  have a1 : (Str.ofString "names") ∈ all_Program := by decide +kernel
  have a2 : (Str.ofString "channels") ∈ all_Program := by decide +kernel
  have a3 : (Str.ofString "states") ∈ all_Program := by decide +kernel
  have a4 : (Str.ofString "table") ∈ all_Program := by decide +kernel
  have a5 : (Str.ofString "rules") ∈ all_Program := by decide +kernel
  rw [if_pos (show [d1, d2, d3, d4].length = 4 from rfl)]
  simp (implicitDefEqProofs := false) only [startI, List.map_cons, List.map_nil, List.length_cons, List.length_nil, Nat.reduceAdd, Nat.reduceSub, List.replicate, List.cons_append, List.nil_append]
  walk_at "mir"
  rw [show m_words_from [d1, .int 4] = _ from m_wordsfrom (most := 4) h1 hp.names (by decide)]
  walk_at "mir"
  rw [if_pos a1, show ∀ x : D, putD (Str.ofString "names") x [] = [(Str.ofString "names", x)] from fun _ => rfl]
  walk_at "mir"
  rw [m_channelsfrom h2 hp.chs]
  walk_at "mir"
  rw [if_pos a2, put1]
  walk_at "mir"
  rw [m_statesfrom h3 hp.sts]
  walk_at "mir"
  rw [if_pos a3, put2]
  walk_at "mir"
  have f1 := fields1 p.names p.chs p.sts
  rw [m_tablefrom f1 hp.chs hp.sts hall nds hbig h4]
  walk_at "mir"
  rw [show noObj (.dct (rs.map fun r => (keyK r.key, rulD r))) = true from noObjK_map _ _ fun r _ => noObj_rul r]
  walk_at "mir"
  rw [if_pos a4, put3]
  walk_at "mir"
  have f2 := fields2 p.names p.chs p.sts (.dct (rs.map fun r => (keyK r.key, rulD r)))
  rw [m_situations f2 hp.names.le hp.sts]
  walk_at "mir"
  rw [show noObjs ((keysOf p.names p.sts).map keyD) = true from noObjs_map _ fun _ _ => rfl]
  walk_at "mir"
  have et : ([(Str.ofString "names", .tup (p.names.map .str)), (Str.ofString "channels", .tup (p.chs.map chD)), (Str.ofString "states", .tup (p.sts.map dN)), (Str.ofString "table", .dct (rs.map fun r => (keyK r.key, rulD r)))] : List (Str × D)).lookup (Str.ofString "table") = some (.dct (rs.map fun r => (keyK r.key, rulD r))) := by
    simp only [List.lookup_cons, beq_self_eq_true, bq_table_names, bq_table_channels, bq_table_states]
  rw [et]
  walk_at "mir"
  rw [show oLenD (.dct (rs.map fun r => (keyK r.key, rulD r))) = some (.int (rs.length : Int)) by simp [oLenD]]
  walk_at "mir"
  simp only [List.length_map, hlen, beq_self_eq_true]
  rw [m_dem]
  walk_at "mir"
  have big2 : (keysOf p.names p.sts).length ≤ 16777216 := by omega
  rw [lc_map keyD (f := fun k => match p.rules.find? (fun r => r.key == k) with | some r => rulD r | none => .non) big2 (fun k hk => by
    rw [← hp.keys] at hk
    obtain ⟨r, hr, rfl⟩ := List.mem_map.mp hk
    have ef : p.rules.find? (fun x => x.key == r.key) = some r := by
      cases e : p.rules.find? (fun x => x.key == r.key) with
      | none =>
        have := List.find?_eq_none.mp e r hr
        simp at this
      | some x =>
        have h1 := List.find?_some e
        have h2 := List.mem_of_find?_eq_some e
        rw [rule_of_key nd h2 hr (by simpa using h1)]
    unfold e_Program_1
    walk_at "mir"
    rw [et]
    walk_at "mir"
    rw [oGet_tup, show keys? [dN r.key.1, .str r.key.2.1, dN r.key.2.2] = some (keyK r.key) from rfl, Option.bind_some, look_table nds (perm.mem_iff.mpr hr), ef]
    walk_at "mir")]
  walk_at "mir"
  have er : ((keysOf p.names p.sts).map fun k => match p.rules.find? (fun r => r.key == k) with | some r => rulD r | none => .non) = p.rules.map rulD := by
    rw [← hp.keys, List.map_map]
    refine List.map_congr_left fun r hr => ?_
    have ef : p.rules.find? (fun x => x.key == r.key) = some r := by
      cases e : p.rules.find? (fun x => x.key == r.key) with
      | none =>
        have := List.find?_eq_none.mp e r hr
        simp at this
      | some x =>
        have h1 := List.find?_some e
        have h2 := List.mem_of_find?_eq_some e
        rw [rule_of_key nd h2 hr (by simpa using h1)]
    simp only [Function.comp_apply, ef]
  rw [er, if_pos a5, put4]
  simp only [R.of_some, R.bind_ok, endI, List.getElem?_cons_zero, and_self, if_true]
  rfl

end K09
namespace K09
open PySem PySem.Spec PyProof.Rows L2 DL
local macro_rules | `(tactic| walk_at "mir") => `(tactic| try simp (implicitDefEqProofs := false) only [runD, startE, endO, List.map_cons, List.map_nil, List.length_cons, List.length_nil, Nat.sub_self, Nat.reduceAdd, Nat.reduceSub, Nat.reduceMul, List.replicate, List.cons_append, List.nil_append, if_pos, R.bind_ok, R.of_some, R.map_ok, Option.bind_some, Option.map_some, withR_ok, seqO_nx, seqO_rt, List.set_cons_zero, List.set_cons_succ, List.getElem?_cons_zero, List.getElem?_cons_succ,
  eC, eOp, lOp, eCmp, bCmp, eNotInD, eUn, lUn, eIsi, eIsi2, eIf, eAnd, eOr, bAnd, bOr, bNot, bVal, eChain, bChain, pNone, pSome, lSl, eSlT, eSlR, aNil, aCons, eTup, lLst, eFz, eAttr, eCall, lCall, lLc, bYes, gsNil, gsCons, gT, iSeq, iR1, iR2, iZip2, iEnm, sNx, sSeq, sSet, sSetF, sSetFz, sAsg, sExpr, sRet, sRetF, sRetOwn, sRetN, sIf, sApp, sIns, sAug, sFor, sFrz, sFldM, sSetM, sPutD, eMelt, lMelt, eMake,
  getD, getB, slotL, slotD, slotM, freeze, setD, rowOf_tup, rowOf_lst, Ret_v_val, Ret_v_frl, Ret_f_frl, oItems_lst, oItems_tup, oIx_lst, oIx_tup, oIx_scr, oLen_lst, oLen_tup, oLen_scr, cInt_int, oAdd_int, oSub_int, oInt_int, oTuple_lst, oTuple_tup, oList_lst, oList_tup, oBl_bl, oNot_bl, oSlL_lst, oSlL_scr, oSlT_tup, oSlR_tup, oSlR_lst, oI_int, oAttr_obj, oAug_int, oSlR_scr, cEq_int, oSeq_lst, oSeq_tup, lcItem, calm_ok, cElt, wipeE, if_true, if_false, Bool.false_eq_true, Bool.true_eq_false, Bool.not_true, Bool.not_false, reduceCtorEq, mkL_ok, oMod_int, oDiv_int, oMul_int, oPow_10_18, Int.reduceLT, Int.reduceLE, Int.reduceNeg, Int.reducePow, Nat.reduceLeDiff, Nat.reduceLT, and_self, true_or, or_true, and_true, true_and, Nat.zero_le, Int.zero_add])
local macro_rules | `(tactic| walk_at "mir*") => `(tactic| try simp (implicitDefEqProofs := false) only [runD, startE, endO, List.map_cons, List.map_nil, List.length_cons, List.length_nil, Nat.sub_self, Nat.reduceAdd, Nat.reduceSub, Nat.reduceMul, List.replicate, List.cons_append, List.nil_append, if_pos, R.bind_ok, R.of_some, R.map_ok, Option.bind_some, Option.map_some, withR_ok, seqO_nx, seqO_rt, List.set_cons_zero, List.set_cons_succ, List.getElem?_cons_zero, List.getElem?_cons_succ,
  eC, eOp, lOp, eCmp, bCmp, eNotInD, eUn, lUn, eIsi, eIsi2, eIf, eAnd, eOr, bAnd, bOr, bNot, bVal, eChain, bChain, pNone, pSome, lSl, eSlT, eSlR, aNil, aCons, eTup, lLst, eFz, eAttr, eCall, lCall, lLc, bYes, gsNil, gsCons, gT, iSeq, iR1, iR2, iZip2, iEnm, sNx, sSeq, sSet, sSetF, sSetFz, sAsg, sExpr, sRet, sRetF, sRetOwn, sRetN, sIf, sApp, sIns, sAug, sFor, sFrz, sFldM, sSetM, sPutD, eMelt, lMelt, eMake,
  getD, getB, slotL, slotD, slotM, freeze, setD, rowOf_tup, rowOf_lst, Ret_v_val, Ret_v_frl, Ret_f_frl, oItems_lst, oItems_tup, oIx_lst, oIx_tup, oIx_scr, oLen_lst, oLen_tup, oLen_scr, cInt_int, oAdd_int, oSub_int, oInt_int, oTuple_lst, oTuple_tup, oList_lst, oList_tup, oBl_bl, oNot_bl, oSlL_lst, oSlL_scr, oSlT_tup, oSlR_tup, oSlR_lst, oI_int, oAttr_obj, oAug_int, oSlR_scr, cEq_int, oSeq_lst, oSeq_tup, lcItem, calm_ok, cElt, wipeE, if_true, if_false, Bool.false_eq_true, Bool.true_eq_false, Bool.not_true, Bool.not_false, reduceCtorEq, mkL_ok, oMod_int, oDiv_int, oMul_int, oPow_10_18, Int.reduceLT, Int.reduceLE, Int.reduceNeg, Int.reducePow, Nat.reduceLeDiff, Nat.reduceLT, and_self, true_or, or_true, and_true, true_and, Nat.zero_le, Int.zero_add, decide_true, decide_false, *])

/-! ### one step -/
theorem m_pos {d : D} {kept : List Int} (h : IsRow d (kept.map .int)) (n : Int) : m_position_of [.int n, d] = .ok (.val (dN (posN n kept))) := by
  unfold m_position_of
  walk_at "mir"
  rw [h.items]
  walk_at "mir"
  have e := for_fold (gt := setD 3) (g := b_position_of_1) D.int (fun (s : Int × Option S) => [some (S.d (.int n)), some (S.d d), some (S.d (.int s.1)), s.2])
    (fun s v => (if v < n then s.1 + 2 else if n = v then s.1 + 1 else s.1, some (S.d (.int v)))) (fun v s => by
      refine ⟨_, rfl, ?_⟩
      unfold b_position_of_1
      walk_at "mir"
      by_cases h1 : v < n
      · simp only [h1, decide_true, if_true]
        walk_at "mir"
      · simp only [h1, decide_false, if_false]
        walk_at "mir"
        by_cases h2 : n = v
        · simp only [h2, beq_self_eq_true, if_true]
          walk_at "mir"
        · have h3 : (n == v) = false := by simpa using h2
          simp only [h2, h3, if_false]
          walk_at "mir") kept (0, none)
  have e2 : ∀ (l : List Int) (a : Int) (j : Option S), (l.foldl (fun (s : Int × Option S) v => ((if v < n then s.1 + 2 else if n = v then s.1 + 1 else s.1), some (S.d (.int v)))) (a, j)).1 = l.foldl (fun p v => if v < n then p + 2 else if n = v then p + 1 else p) a := fun l => by
    induction l with
    | nil => intro a j; rfl
    | cons v r ih => intro a j; rw [List.foldl_cons, List.foldl_cons, ih]
  simp only at e
  rw [e]
  walk_at "mir"
  rw [e2, posN_fold, Int.zero_add]
theorem m_lawpos {d : D} {kept : List Int} (h : IsRow d (kept.map .int)) (hl : kept.length ≤ 100000) (n : Int) : m__law_position [.int n, d] = .ok (.val (dN (posN n kept))) := by
  unfold m__law_position
  walk_at "mir"
  rw [h.items]
  walk_at "mir"
  rw [lc_filter D.int (p := fun v => decide (v < n)) (f := D.int) (by omega) (fun v hv => by
    unfold t__law_position_1 e__law_position_1
    walk_at "mir"
    cases decide (v < n) <;> rfl)]
  walk_at "mir"
  rw [h.items]
  walk_at "mir"
  rw [lc_filter D.int (p := fun v => v == n) (f := D.int) (by omega) (fun v hv => by
    unfold t__law_position_2 e__law_position_2
    walk_at "mir"
    cases v == n <;> rfl)]
  walk_at "mir"
  simp only [List.length_map]
  rw [show (2 : Int) * ((kept.filter fun v => decide (v < n)).length : Int) + ((kept.filter fun v => v == n).length : Int) = (posN n kept : Int) by unfold posN; omega]
theorem m_cands {d : D} {kept : List Int} (h : IsRow d (kept.map .int)) (hl : kept.length ≤ 100000) (ha : kept.Pairwise (· < ·)) (n : Int) : m_candidates_of [.int n, d, dN (posN n kept)] = .ok (.frl ((cands n kept).map .int)) := by
  unfold m_candidates_of
  walk_at "mir"
  rw [h.list]
  walk_at "mir"
  rcases Nat.mod_two_eq_zero_or_one (posN n kept) with ho | ho
  · rw [show ((posN n kept : Int) % 2 == 0) = true by rw [beq_iff_eq]; omega]
    walk_at "mir"
    obtain ⟨e, hle⟩ := cands_even ha ho
    rw [show (posN n kept : Int) / 2 = ((posN n kept / 2 : Nat) : Int) by omega]
    rw [show insD (kept.map D.int) (.int ((posN n kept / 2 : Nat) : Int)) (.int n) = some ((cands n kept).map D.int) by
      unfold insD
      simp only [List.length_map]
      rw [if_pos ⟨by omega, by omega, by omega⟩, e, Int.toNat_natCast]
      simp only [List.map_append, List.map_take, List.map_drop, List.map_cons, List.map_nil]]
    walk_at "mir"
  · rw [show ((posN n kept : Int) % 2 == 0) = false by rw [beq_eq_false_iff_ne]; omega]
    walk_at "mir"
    rw [cands_odd ha ho]
theorem m_steps {p : Prog} (hp : ProgOk p) {rs : List Rul} (perm : rs.Perm p.rules) {c : Plc} (hc : PlaceOk p.sts c) {nm : Str} (n : Int) {r : Rul} (hr : r ∈ p.rules) (hk : r.key = (c.1, nm, posN n c.2))
    {dc dk dm : D} (h1 : IsRow dc [dN c.1, dk]) (h2 : IsRow dk (c.2.map .int)) (h3 : IsRow dm [.str nm, .int n]) :
    m_step [progD p rs, dc, dm] = .ok (.val (.tup [placeD (r.tg, keepOf r (cands n c.2)), .tup ((outsOf r (cands n c.2)).map outD)])) := by
  have nd : (p.rules.map Rul.key).Nodup := by rw [hp.keys]; exact keysFrom_nodup hp.names.nd _ _
  have nds : (rs.map Rul.key).Nodup := ((perm.map Rul.key).nodup_iff).mpr nd
  have k4 : c.2.length ≤ 4 := hp.sts.four _ (List.mem_of_getElem? hc.st)
  obtain ⟨k, t, q1, q2, q3, q4, q5⟩ := hp.rules r hr
  have hst : r.st = c.1 := congrArg Prod.fst hk
  have hnm : r.nm = nm := congrArg (fun x => x.2.1) hk
  have hpos : r.pos = posN n c.2 := congrArg (fun x => x.2.2) hk
  rw [hst, hc.st] at q1
  cases q1
  rw [hpos, ← cands_len hc.asc] at q4 q5
  have hlen := cands_len (n := n) hc.asc
  have c5 := cand_le (p := posN n c.2) k4
  have t4 : t ≤ 4 := hp.sts.four _ (List.mem_of_getElem? q2)
  unfold m_step
  walk_at "mir"
  rw [h1.row]
  walk_at "mir"
  rw [h3.row]
  walk_at "mir"
  rw [m_pos h2]
  walk_at "mir"
  rw [show progD p rs = .obj "Program" (progFields p rs) from rfl]
  walk_at "mir"
  rw [tableP]
  walk_at "mir"
  rw [oGet_tup, show keys? [dN c.1, .str nm, dN (posN n c.2)] = some (keyK r.key) by rw [hk]; rfl, Option.bind_some, look_table nds (perm.mem_iff.mpr hr)]
  walk_at "mir"
  rw [m_cands h2 (by omega) hc.asc]
  walk_at "mir"
  rw [show atI [dN r.st, .str r.nm, dN r.pos, dN r.tg, .tup (r.src.map dN), .tup (r.outs.map triD)] 4 = some (.tup (r.src.map dN)) from atI_ofNat _ 4]
  walk_at "mir"
  rw [lc_map dN (f := fun i => D.int ((cands n c.2).getD i 0)) (by have := q4.len; omega) (fun i hi => by
    unfold e_step_1
    walk_at "mir"
    rw [at_map (i := (i : Int)) rfl (getD_at (q4.lt i hi))]
    walk_at "mir")]
  walk_at "mir"
  rw [show atI [dN r.st, .str r.nm, dN r.pos, dN r.tg, .tup (r.src.map dN), .tup (r.outs.map triD)] 5 = some (.tup (r.outs.map triD)) from atI_ofNat _ 5]
  walk_at "mir"
  rw [lc_map triD (f := fun o => D.tup [.str o.1, .str o.2.1, .int ((cands n c.2).getD o.2.2 0)]) (by have := q5.le; omega) (fun o ho => by
    unfold e_step_2
    walk_at "mir"
    rw [at_map (i := (o.2.2 : Int)) rfl (getD_at (q5.ok o ho).2)]
    walk_at "mir")]
  walk_at "mir"
  rw [show atI [dN r.st, .str r.nm, dN r.pos, dN r.tg, .tup (r.src.map dN), .tup (r.outs.map triD)] 3 = some (dN r.tg) from atI_ofNat _ 3]
  walk_at "mir"
  simp only [keepOf, outsOf, placeD, outD, List.map_map, Function.comp_def]

theorem m_lawstep {p : Prog} (hp : ProgOk p) {c : Plc} (hc : PlaceOk p.sts c) {nm : Str} (hn : nm ∈ p.names) (n : Int) {r : Rul} (hr : r ∈ p.rules) (hk : r.key = (c.1, nm, posN n c.2)) :
    m__law_step [.lst (planD p), placeD c, msgD (nm, n)] = .ok (.frl [placeD (r.tg, keepOf r (cands n c.2)), .tup ((outsOf r (cands n c.2)).map outD)]) := by
  have k4 : c.2.length ≤ 4 := hp.sts.four _ (List.mem_of_getElem? hc.st)
  obtain ⟨k, t, q1, q2, q3, q4, q5⟩ := hp.rules r hr
  have hst : r.st = c.1 := congrArg Prod.fst hk
  have hnm : r.nm = nm := congrArg (fun x => x.2.1) hk
  have hpos : r.pos = posN n c.2 := congrArg (fun x => x.2.2) hk
  rw [hst, hc.st] at q1
  cases q1
  rw [hpos, ← cands_len hc.asc] at q4 q5
  have hlen := cands_len (n := n) hc.asc
  have c5 := cand_le (p := posN n c.2) k4
  have t4 : t ≤ 4 := hp.sts.four _ (List.mem_of_getElem? q2)
  have low : ∀ x ∈ p.rules, Low x.nm := fun x hx => by
    have hm : x.key ∈ keysOf p.names p.sts := by rw [← hp.keys]; exact List.mem_map_of_mem hx
    obtain ⟨_, _, _, _, h, _⟩ := keysFrom_mem hm
    exact (hp.names.word _ h).1
  have lown : Low nm := (hp.names.word _ hn).1
  have i0 : atI [dN c.1, .tup (c.2.map .int)] 0 = some (dN c.1) := atI_ofNat _ 0
  have i1 : atI [dN c.1, .tup (c.2.map .int)] 1 = some (.tup (c.2.map .int)) := atI_ofNat _ 1
  have j0 : atI [D.str nm, .int n] 0 = some (.str nm) := atI_ofNat _ 0
  have j1 : atI [D.str nm, .int n] 1 = some (.int n) := atI_ofNat _ 1
  have p3 : atI (planD p) 3 = some (.tup (p.rules.map rulD)) := atI_ofNat _ 3
  have r0 : ∀ x : Rul, atI [dN x.st, .str x.nm, dN x.pos, dN x.tg, .tup (x.src.map dN), .tup (x.outs.map triD)] 0 = some (dN x.st) := fun x => atI_ofNat _ 0
  have r1 : ∀ x : Rul, atI [dN x.st, .str x.nm, dN x.pos, dN x.tg, .tup (x.src.map dN), .tup (x.outs.map triD)] 1 = some (.str x.nm) := fun x => atI_ofNat _ 1
  have r2 : ∀ x : Rul, atI [dN x.st, .str x.nm, dN x.pos, dN x.tg, .tup (x.src.map dN), .tup (x.outs.map triD)] 2 = some (dN x.pos) := fun x => atI_ofNat _ 2
  have r3 : ∀ x : Rul, atI [dN x.st, .str x.nm, dN x.pos, dN x.tg, .tup (x.src.map dN), .tup (x.outs.map triD)] 3 = some (dN x.tg) := fun x => atI_ofNat _ 3
  have r4 : ∀ x : Rul, atI [dN x.st, .str x.nm, dN x.pos, dN x.tg, .tup (x.src.map dN), .tup (x.outs.map triD)] 4 = some (.tup (x.src.map dN)) := fun x => atI_ofNat _ 4
  have r5 : ∀ x : Rul, atI [dN x.st, .str x.nm, dN x.pos, dN x.tg, .tup (x.src.map dN), .tup (x.outs.map triD)] 5 = some (.tup (x.outs.map triD)) := fun x => atI_ofNat _ 5
  unfold m__law_step
  walk_at "mir"
  rw [i1, j1]
  walk_at "mir"
  rw [m_lawpos (.inr rfl) (by omega)]
  walk_at "mir"
  rw [i1, j1]
  walk_at "mir"
  have ec : cut [D.int n] none (some (1 - (posN n c.2 : Int) % 2)) = (if posN n c.2 % 2 = 0 then [n] else []).map D.int := by
    split
    · rw [show 1 - (posN n c.2 : Int) % 2 = ((1 : Nat) : Int) by omega, cut_to]; rfl
    · rw [show 1 - (posN n c.2 : Int) % 2 = ((0 : Nat) : Int) by omega, cut_to]; rfl
  have eo : oCat (.lst (c.2.map .int)) (.lst ((if posN n c.2 % 2 = 0 then [n] else []).map D.int)) = some ((c.2 ++ (if posN n c.2 % 2 = 0 then [n] else [])).map D.int) := by
    rw [List.map_append]
    exact if_pos (by split <;> simp <;> omega)
  rw [ec, eo]
  walk_at "mir"
  rw [sorted_cands hc.asc (by omega)]
  walk_at "mir"
  rw [p3]
  walk_at "mir"
  rcases for_find (gt := setD 5) (g := b__law_step_1) rulD (fun ρ => ∃ j5 : Option S, ρ = [some (S.d (.lst (planD p))), some (S.d (placeD c)), some (S.d (msgD (nm, n))), some (S.d (dN (posN n c.2))), some (S.d (.lst ((cands n c.2).map .int))), j5, none, none, none])
    (fun x => x.key == r.key) (fun _ => .frl [placeD (r.tg, keepOf r (cands n c.2)), .tup ((outsOf r (cands n c.2)).map outD)]) p.rules (fun x hx ρ => by
    rintro ⟨j5, rfl⟩
    have lx := low x hx
    have ekey : (x.key == r.key) = (((x.st : Int) == (c.1 : Int)) && ((x.nm == nm) && ((x.pos : Int) == (posN n c.2 : Int)))) := by
      rw [hk, Bool.eq_iff_iff]
      simp only [beq_iff_eq, Bool.and_eq_true, Prod.mk.injEq, Int.natCast_inj]
    refine ⟨_, rfl, fun hp2 => ?_, fun hp2 => ⟨_, ?_, some (S.d (rulD x)), rfl⟩⟩
    · have ex : x = r := by
        have h1 := find_rule hp hr
        have h2 := find_rule hp hx
        rw [show x.key = r.key by simpa using hp2] at h2
        rw [h1] at h2
        exact (Option.some.inj h2).symm
      subst ex
      rw [hk] at hp2
      unfold b__law_step_1
      walk_at "mir"
      rw [r0, i0]
      walk_at "mir"
      rw [show ((x.st : Int) == (c.1 : Int)) = true by rw [hst]; exact beq_self_eq_true _]
      walk_at "mir"
      rw [r1, j0]
      walk_at "mir"
      rw [cEq_str lx.ok lown.ok, show (x.nm == nm) = true by rw [hnm]; exact beq_self_eq_true _]
      walk_at "mir"
      rw [r2]
      walk_at "mir"
      rw [show ((x.pos : Int) == (posN n c.2 : Int)) = true by rw [hpos]; exact beq_self_eq_true _]
      walk_at "mir"
      rw [r5]
      walk_at "mir"
      rw [lc_map triD (f := fun o => D.tup [.str o.1, .str o.2.1, .int ((cands n c.2).getD o.2.2 0)]) (by have := q5.le; omega) (fun o ho => by
        unfold e__law_step_1
        walk_at "mir"
        rw [show atI [D.str o.1, .str o.2.1, dN o.2.2] 0 = some (.str o.1) from atI_ofNat _ 0, show atI [D.str o.1, .str o.2.1, dN o.2.2] 1 = some (.str o.2.1) from atI_ofNat _ 1, show atI [D.str o.1, .str o.2.1, dN o.2.2] 2 = some (dN o.2.2) from atI_ofNat _ 2]
        walk_at "mir"
        rw [at_map (i := (o.2.2 : Int)) rfl (getD_at (q5.ok o ho).2)]
        walk_at "mir")]
      walk_at "mir"
      rw [r3, r4]
      walk_at "mir"
      rw [lc_map dN (f := fun i => D.int ((cands n c.2).getD i 0)) (by have := q4.len; omega) (fun i hi => by
        unfold e__law_step_2
        walk_at "mir"
        rw [at_map (i := (i : Int)) rfl (getD_at (q4.lt i hi))]
        walk_at "mir")]
      walk_at "mir"
      simp only [keepOf, outsOf, placeD, outD, List.map_map, Function.comp_def]
    · rw [ekey] at hp2
      unfold b__law_step_1
      walk_at "mir"
      rw [r0, i0]
      walk_at "mir"
      cases h1 : ((x.st : Int) == (c.1 : Int)) with
      | false => walk_at "mir"
      | true =>
        walk_at "mir"
        rw [r1, j0]
        walk_at "mir"
        rw [cEq_str lx.ok lown.ok]
        walk_at "mir"
        cases h2 : (x.nm == nm) with
        | false => walk_at "mir"
        | true =>
          walk_at "mir"
          rw [r2]
          walk_at "mir"
          rw [h1, h2, Bool.true_and, Bool.true_and] at hp2
          rw [hp2]
          walk_at "mir") _ ⟨none, rfl⟩ with ⟨x, e1, e2⟩ | ⟨e1, _⟩
  · rw [e2]
    walk_at "mir"
  · rw [find_rule hp hr] at e1
    cases e1

end K09
namespace K09
open PySem PySem.Spec PyProof.Rows L2 DL
local macro_rules | `(tactic| walk_at "mir") => `(tactic| try simp (implicitDefEqProofs := false) only [runD, startE, endO, List.map_cons, List.map_nil, List.length_cons, List.length_nil, Nat.sub_self, Nat.reduceAdd, Nat.reduceSub, Nat.reduceMul, List.replicate, List.cons_append, List.nil_append, if_pos, R.bind_ok, R.of_some, R.map_ok, Option.bind_some, Option.map_some, withR_ok, seqO_nx, seqO_rt, List.set_cons_zero, List.set_cons_succ, List.getElem?_cons_zero, List.getElem?_cons_succ,
  eC, eOp, lOp, eCmp, bCmp, eNotInD, eUn, lUn, eIsi, eIsi2, eIf, eAnd, eOr, bAnd, bOr, bNot, bVal, eChain, bChain, pNone, pSome, lSl, eSlT, eSlR, aNil, aCons, eTup, lLst, eFz, eAttr, eCall, lCall, lLc, bYes, gsNil, gsCons, gT, iSeq, iR1, iR2, iZip2, iEnm, sNx, sSeq, sSet, sSetF, sSetFz, sAsg, sExpr, sRet, sRetF, sRetOwn, sRetN, sIf, sApp, sIns, sAug, sFor, sFrz, sFldM, sSetM, sPutD, eMelt, lMelt, eMake, eMakeD, sExt, eDc, eIxG, sRaise, eIsO, iZip3, lLcN, cNext,
  getD, getB, slotL, slotD, slotM, freeze, setD, rowOf_tup, rowOf_lst, Ret_v_val, Ret_v_frl, Ret_f_frl, oItems_lst, oItems_tup, oIx_lst, oIx_tup, oIx_scr, oLen_lst, oLen_tup, oLen_scr, cInt_int, oAdd_int, oSub_int, oInt_int, oTuple_lst, oTuple_tup, oList_lst, oList_tup, oBl_bl, oNot_bl, oSlL_lst, oSlL_scr, oSlT_tup, oSlR_tup, oSlR_lst, oI_int, oAttr_obj, at0, at1, at2, at3, at4, at5, oNeg_int, oRev_lst, Int.reduceNeg, oAug_int, oSlR_scr, cEq_int, oSeq_lst, oSeq_tup, lcItem, calm_ok, cElt, wipeE, if_true, if_false, Bool.false_eq_true, Bool.true_eq_false, Bool.not_true, Bool.not_false, reduceCtorEq, mkL_ok, oMod_int, oDiv_int, oMul_int, oPow_10_18, Int.reduceLT, Int.reduceLE, Int.reduceNeg, Int.reducePow, Nat.reduceLeDiff, Nat.reduceLT, and_self, true_or, or_true, and_true, true_and, Nat.zero_le, Int.zero_add])
local macro_rules | `(tactic| walk_at "mir*") => `(tactic| try simp (implicitDefEqProofs := false) only [runD, startE, endO, List.map_cons, List.map_nil, List.length_cons, List.length_nil, Nat.sub_self, Nat.reduceAdd, Nat.reduceSub, Nat.reduceMul, List.replicate, List.cons_append, List.nil_append, if_pos, R.bind_ok, R.of_some, R.map_ok, Option.bind_some, Option.map_some, withR_ok, seqO_nx, seqO_rt, List.set_cons_zero, List.set_cons_succ, List.getElem?_cons_zero, List.getElem?_cons_succ,
  eC, eOp, lOp, eCmp, bCmp, eNotInD, eUn, lUn, eIsi, eIsi2, eIf, eAnd, eOr, bAnd, bOr, bNot, bVal, eChain, bChain, pNone, pSome, lSl, eSlT, eSlR, aNil, aCons, eTup, lLst, eFz, eAttr, eCall, lCall, lLc, bYes, gsNil, gsCons, gT, iSeq, iR1, iR2, iZip2, iEnm, sNx, sSeq, sSet, sSetF, sSetFz, sAsg, sExpr, sRet, sRetF, sRetOwn, sRetN, sIf, sApp, sIns, sAug, sFor, sFrz, sFldM, sSetM, sPutD, eMelt, lMelt, eMake, eMakeD, sExt, eDc, eIxG, sRaise, eIsO, iZip3, lLcN, cNext,
  getD, getB, slotL, slotD, slotM, freeze, setD, rowOf_tup, rowOf_lst, Ret_v_val, Ret_v_frl, Ret_f_frl, oItems_lst, oItems_tup, oIx_lst, oIx_tup, oIx_scr, oLen_lst, oLen_tup, oLen_scr, cInt_int, oAdd_int, oSub_int, oInt_int, oTuple_lst, oTuple_tup, oList_lst, oList_tup, oBl_bl, oNot_bl, oSlL_lst, oSlL_scr, oSlT_tup, oSlR_tup, oSlR_lst, oI_int, oAttr_obj, at0, at1, at2, at3, at4, at5, oNeg_int, oRev_lst, Int.reduceNeg, oAug_int, oSlR_scr, cEq_int, oSeq_lst, oSeq_tup, lcItem, calm_ok, cElt, wipeE, if_true, if_false, Bool.false_eq_true, Bool.true_eq_false, Bool.not_true, Bool.not_false, reduceCtorEq, mkL_ok, oMod_int, oDiv_int, oMul_int, oPow_10_18, Int.reduceLT, Int.reduceLE, Int.reduceNeg, Int.reducePow, Nat.reduceLeDiff, Nat.reduceLT, and_self, true_or, or_true, and_true, true_and, Nat.zero_le, Int.zero_add, decide_true, decide_false, *])

/-! ### chains -/
theorem m_namesof {c : CPlan} {p : Prog} (h : c.progs[0]? = some p) : m_names_of [chainD c] = .ok (.val (.tup (p.names.map .str))) := by
  unfold m_names_of
  rw [show chainD c = .obj "Chain" (chainFields c) from rfl]
  walk_at "mir"
  rw [programsC]
  walk_at "mir"
  rw [at_map (i := 0) (k := 0) rfl h]
  rw [show revD p = .obj "Program" (progFields p p.rules.reverse) from rfl]
  walk_at "mir"
  rw [namesP]
  walk_at "mir"
theorem m_isconf {p : Prog} (hs : StsOk p.sts) (rs : List Rul) {d : D} {c : Plc} (hd : PlaceRow d c) (hc : PlaceOk p.sts c) : m_is_configuration [progD p rs, d] = .ok (.val (.bl true)) := by
  obtain ⟨dk, h1, h2⟩ := hd
  have k4 : c.2.length ≤ 4 := hs.four _ (List.mem_of_getElem? hc.st)
  have hl : c.1 < p.sts.length := (List.getElem?_eq_some_iff.mp hc.st).1
  have hf := (fieldsP p rs).sts
  unfold m_is_configuration
  rw [show progD p rs = .obj "Program" (progFields p rs) from rfl]
  walk_at "mir"
  rw [m_isrowof h1 (by simp) (by simp)]
  walk_at "mir"
  rw [h1.row]
  walk_at "mir"
  rw [hf]
  walk_at "mir"
  simp only [List.length_map]
  rw [m_isindex, decide_eq_true (by omega : (0 : Int) ≤ (c.1 : Int) ∧ (c.1 : Int) < (p.sts.length : Int))]
  walk_at "mir"
  rw [m_isrow h2]
  walk_at "mir"
  rw [h2.len]
  walk_at "mir"
  rw [at_map (i := (c.1 : Int)) rfl hc.st]
  walk_at "mir"
  simp only [List.length_map]
  rw [show cNe (.int (c.2.length : Int)) (dN c.2.length) = some false from cNe_self (.int _ _)]
  walk_at "mir"
  rw [h2.items]
  walk_at "mir"
  rw [lc_map D.int (f := fun _ => D.bl true) (by omega) (fun v hv => by
    unfold e_is_configuration_1
    walk_at "mir"
    rw [m_isint]
    walk_at "mir")]
  walk_at "mir"
  rw [all_true]
  walk_at "mir"
  rw [m_asc h2 (by omega) hc.asc]
  walk_at "mir"
theorem zip_all2 {α β : Type} {R : α → β → Prop} (f : β → D) : ∀ {as : List α} {bs : List β} (_ : All2 R as bs) (g : α → D), zip2 (bs.map f) (as.map g) = (bs.zip as).map fun x => .tup [f x.1, g x.2] := fun {as bs} _ g => zip2_map f g bs as
theorem zip_mem {α β : Type} {R : α → β → Prop} : ∀ {as : List α} {bs : List β}, All2 R as bs → ∀ x ∈ as.zip bs, R x.1 x.2
  | _, _, .nil, x, hx => by simp at hx
  | _, _, .cons a t, x, hx => by
    rw [List.zip_cons_cons] at hx
    rcases List.mem_cons.mp hx with rfl | hx
    · exact a
    · exact zip_mem t x hx
theorem m_isbeg {c : CPlan} (hc : ChainOk c) {cs : List Plc} (hp : PlacesOk c cs) {d : D} {ds : List D} (hd : IsRow d ds) (hr : All2 PlaceRow ds cs) : m_is_beginning [chainD c, d] = .ok (.val (.bl true)) := by
  have l1 := hp.len
  have l2 := hr.len
  have l3 := hc.le
  unfold m_is_beginning
  rw [show chainD c = .obj "Chain" (chainFields c) from rfl]
  walk_at "mir"
  rw [m_isrow hd]
  walk_at "mir"
  rw [hd.len, programsC]
  walk_at "mir"
  simp only [List.length_map]
  rw [show (ds.length : Int) = (c.progs.length : Int) by omega, show cNe (.int (c.progs.length : Int)) (.int (c.progs.length : Int)) = some false from cNe_self (.int _ _)]
  walk_at "mir"
  have ez : oZip2 (.tup (c.progs.map revD)) d = some ((c.progs.zip ds).map fun x => .tup [revD x.1, x.2]) := by
    have := zip2_map revD (id : D → D) c.progs ds
    rw [List.map_id] at this
    rcases hd with rfl | rfl
    · show some (zip2 (c.progs.map revD) ds) = _; rw [this]; rfl
    · show some (zip2 (c.progs.map revD) ds) = _; rw [this]; rfl
  rw [programsC]
  walk_at "mir"
  rw [ez]
  walk_at "mir"
  have both : All2 (fun (p : Prog) (x : D) => ∃ y, PlaceOk p.sts y ∧ PlaceRow x y) c.progs ds := by
    have h2 := hr
    have h1 : All2 (fun p x => PlaceOk p.sts x) c.progs cs := hp
    clear ez l1 l2 l3 hd hp hr
    generalize c.progs = ps at h1
    clear hc
    induction h1 generalizing ds with
    | nil => cases h2; exact .nil
    | cons a t ih =>
      cases h2 with
      | cons b u => exact .cons ⟨_, a, b⟩ (ih u)
  rw [lc_map (fun x : Prog × D => D.tup [revD x.1, x.2]) (f := fun _ => D.bl true) (by simp; omega) (fun x hx => by
    obtain ⟨y, h1, h2⟩ := zip_mem both x hx
    have pm : x.1 ∈ c.progs := (List.of_mem_zip (show (x.1, x.2) ∈ c.progs.zip ds from hx)).1
    unfold e_is_beginning_1
    walk_at "mir"
    rw [m_isconf (hc.ok _ pm).sts _ h2 h1]
    walk_at "mir")]
  walk_at "mir"
  rw [all_true]
  walk_at "mir"
theorem m_ismsg {c : CPlan} {p : Prog} (h : c.progs[0]? = some p) {d : D} {m : Msg} (hd : MsgRow d m) (hm : m.1 ∈ p.names) : m_is_message [chainD c, d] = .ok (.val (.bl true)) := by
  have hd : IsRow d [.str m.1, .int m.2] := hd
  unfold m_is_message
  walk_at "mir"
  rw [m_isrowof hd (by simp) (by simp)]
  walk_at "mir"
  rw [hd.ixd (at0 ..), m_namesof h]
  walk_at "mir"
  rw [cInS_tup, decide_eq_true hm]
  walk_at "mir"
  rw [hd.ixd (at1 ..)]
  walk_at "mir"
  rw [m_isint]
  walk_at "mir"
theorem m_isinput {c : CPlan} {p : Prog} (h : c.progs[0]? = some p) {d : D} {ds : List D} {ms : List Msg} (hd : IsRow d ds) (hr : All2 MsgRow ds ms) (hm : ∀ m ∈ ms, m.1 ∈ p.names) (hl : ms.length ≤ 5000) : m_is_input [chainD c, d] = .ok (.val (.bl true)) := by
  have l2 := hr.len
  unfold m_is_input
  walk_at "mir"
  rw [m_isrow hd]
  walk_at "mir"
  rw [hd.items]
  walk_at "mir"
  have key : ∀ x ∈ ds, ∃ m, MsgRow x m ∧ m.1 ∈ p.names := by
    clear hd l2 hl
    induction hr with
    | nil => intro x hx; cases hx
    | cons a t ih =>
      intro x hx
      rcases List.mem_cons.mp hx with rfl | hx
      · exact ⟨_, a, hm _ List.mem_cons_self⟩
      · exact ih (fun m h => hm m (List.mem_cons_of_mem _ h)) x hx
  have e := lc_map (id : D → D) (vs := [2]) (gt := setD 2) (tt := bYes) (fe := e_is_input_1) (ρ := [some (S.d (chainD c)), some (S.d d), none]) (f := fun _ => D.bl true) (xs := ds) (by omega) (fun x hx => by
    obtain ⟨m, h1, h2⟩ := key x hx
    unfold e_is_input_1
    simp only [id]
    walk_at "mir"
    rw [m_ismsg h h1 h2]
    walk_at "mir")
  rw [List.map_id] at e
  rw [e]
  walk_at "mir"
  rw [all_true]
  walk_at "mir"
theorem m_stepP {p : Prog} (hp : ProgOk p) {rs : List Rul} (perm : rs.Perm p.rules) {c : Plc} (hc : PlaceOk p.sts c) {m : Msg} (hn : m.1 ∈ p.names) {dc dm : D} (h1 : PlaceRow dc c) (h3 : MsgRow dm m) :
    m_step [progD p rs, dc, dm] = .ok (.val (.tup [placeD (stepP p c m).1, .tup ((stepP p c m).2.map outD)])) := by
  obtain ⟨r, hr, hk⟩ := rule_there hp hc hn m.2
  obtain ⟨dk, h4, h5⟩ := h1
  rw [stepP_rule hp hr hk]
  exact m_steps hp perm hc m.2 hr hk h4 h5 h3
theorem m_heard {p : Prog} (hp : ProgOk p) {rs : List Rul} (perm : rs.Perm p.rules) {c : Plc} (hc : PlaceOk p.sts c) {ms : List Msg} (hm : ∀ m ∈ ms, m.1 ∈ p.names) (hl : ms.length ≤ 1000) {dc : D} (h1 : PlaceRow dc c) {dms : D} {ds : List D} (h3 : IsRow dms ds) (hr : All2 MsgRow ds ms) :
    m_heard_by [progD p rs, dc, dms] = .ok (.val (.tup [placeD (hearP p c ms).1, .tup ((hearP p c ms).2.map outD)])) := by
  obtain ⟨dk, h4, h5⟩ := h1
  unfold m_heard_by
  walk_at "mir"
  rw [h4.ixd (at0 ..), h4.ixd (at1 ..)]
  walk_at "mir"
  rw [h5.tuple]
  walk_at "mir"
  rw [h3.items]
  walk_at "mir"
  have loop : ∀ {ds : List D} {ms : List Msg}, All2 MsgRow ds ms → (∀ m ∈ ms, m.1 ∈ p.names) → ∀ (c : Plc), PlaceOk p.sts c → ∀ (os : List Out3) (j5 j6 : Option S), os.length + 3 * ms.length ≤ 10000 → ∃ j5' j6', forD (setD 5) b_heard_by_1 ds [some (S.d (progD p rs)), some (S.d dc), some (S.d dms), some (S.d (placeD c)), some (S.ml (os.map outD)), j5, j6] =
      some (.nx [some (S.d (progD p rs)), some (S.d dc), some (S.d dms), some (S.d (placeD (hearP p c ms).1)), some (S.ml ((os ++ (hearP p c ms).2).map outD)), j5', j6']) := by
    intro ds ms hr
    induction hr with
    | nil => intro _ c _ os j5 j6 _; exact ⟨j5, j6, by simp [forD, hearP]⟩
    | @cons d m ds ms a t ih =>
      intro hm c hc os j5 j6 hl
      have hmn := hm m List.mem_cons_self
      obtain ⟨k1, k2, k3⟩ := stepP_ok hp hc hmn
      have hl' : os.length + 3 * (ms.length + 1) ≤ 10000 := by simpa using hl
      obtain ⟨j5', j6', e⟩ := ih (fun x hx => hm x (List.mem_cons_of_mem _ hx)) _ k1 (os ++ (stepP p c m).2) (some (S.d d)) (some (S.d (.tup ((stepP p c m).2.map outD)))) (by simp; omega)
      refine ⟨j5', j6', ?_⟩
      unfold forD
      have eb : b_heard_by_1 [some (S.d (progD p rs)), some (S.d dc), some (S.d dms), some (S.d (placeD c)), some (S.ml (os.map outD)), some (S.d d), j6] =
          some (.nx [some (S.d (progD p rs)), some (S.d dc), some (S.d dms), some (S.d (placeD (stepP p c m).1)), some (S.ml ((os ++ (stepP p c m).2).map outD)), some (S.d d), some (S.d (.tup ((stepP p c m).2.map outD)))]) := by
        have es := m_stepP hp perm hc hmn (placeRow_tup c) a
        unfold b_heard_by_1
        walk_at "mir"
        rw [es]
        walk_at "mir"
        simp only [List.length_map, show os.length + (stepP p c m).2.length ≤ 16777216 by omega, if_true, List.map_append]
      simp only [setD, Option.bind_some, List.set_cons_zero, List.set_cons_succ, eb, afterO_nx]
      rw [e]
      simp only [hearP, List.append_assoc]
  obtain ⟨j5, j6, e⟩ := loop hr hm c hc [] none none (by simp; omega)
  simp only [List.map_nil, List.nil_append] at e
  rw [e]
  walk_at "mir"


end K09
namespace K09
open PySem PySem.Spec PyProof.Rows L2 DL
local macro_rules | `(tactic| walk_at "mir") => `(tactic| try simp (implicitDefEqProofs := false) only [runD, startE, endO, List.map_cons, List.map_nil, List.length_cons, List.length_nil, Nat.sub_self, Nat.reduceAdd, Nat.reduceSub, Nat.reduceMul, List.replicate, List.cons_append, List.nil_append, if_pos, R.bind_ok, R.of_some, R.map_ok, Option.bind_some, Option.map_some, withR_ok, seqO_nx, seqO_rt, List.set_cons_zero, List.set_cons_succ, List.getElem?_cons_zero, List.getElem?_cons_succ,
  eC, eOp, lOp, eCmp, bCmp, eNotInD, eUn, lUn, eIsi, eIsi2, eIf, eAnd, eOr, bAnd, bOr, bNot, bVal, eChain, bChain, pNone, pSome, lSl, eSlT, eSlR, aNil, aCons, eTup, lLst, eFz, eAttr, eCall, lCall, lLc, bYes, gsNil, gsCons, gT, iSeq, iR1, iR2, iZip2, iEnm, sNx, sSeq, sSet, sSetF, sSetFz, sAsg, sExpr, sRet, sRetF, sRetOwn, sRetN, sIf, sApp, sIns, sAug, sFor, sFrz, sFldM, sSetM, sPutD, eMelt, lMelt, eMake, eMakeD, sExt, eDc, eIxG, sRaise, eIsO, iZip3, lLcN, cNext,
  getD, getB, slotL, slotD, slotM, freeze, setD, rowOf_tup, rowOf_lst, Ret_v_val, Ret_v_frl, Ret_f_frl, oItems_lst, oItems_tup, oIx_lst, oIx_tup, oIx_scr, oLen_lst, oLen_tup, oLen_scr, cInt_int, oAdd_int, oSub_int, oInt_int, oTuple_lst, oTuple_tup, oList_lst, oList_tup, oBl_bl, oNot_bl, oSlL_lst, oSlL_scr, oSlT_tup, oSlR_tup, oSlR_lst, oI_int, oAttr_obj, at0, at1, at2, at3, at4, at5, oNeg_int, oRev_lst, Int.reduceNeg, oAug_int, oSlR_scr, cEq_int, oSeq_lst, oSeq_tup, lcItem, calm_ok, cElt, wipeE, if_true, if_false, Bool.false_eq_true, Bool.true_eq_false, Bool.not_true, Bool.not_false, reduceCtorEq, mkL_ok, oMod_int, oDiv_int, oMul_int, oPow_10_18, Int.reduceLT, Int.reduceLE, Int.reduceNeg, Int.reducePow, Nat.reduceLeDiff, Nat.reduceLT, and_self, true_or, or_true, and_true, true_and, Nat.zero_le, Int.zero_add])
local macro_rules | `(tactic| walk_at "mir*") => `(tactic| try simp (implicitDefEqProofs := false) only [runD, startE, endO, List.map_cons, List.map_nil, List.length_cons, List.length_nil, Nat.sub_self, Nat.reduceAdd, Nat.reduceSub, Nat.reduceMul, List.replicate, List.cons_append, List.nil_append, if_pos, R.bind_ok, R.of_some, R.map_ok, Option.bind_some, Option.map_some, withR_ok, seqO_nx, seqO_rt, List.set_cons_zero, List.set_cons_succ, List.getElem?_cons_zero, List.getElem?_cons_succ,
  eC, eOp, lOp, eCmp, bCmp, eNotInD, eUn, lUn, eIsi, eIsi2, eIf, eAnd, eOr, bAnd, bOr, bNot, bVal, eChain, bChain, pNone, pSome, lSl, eSlT, eSlR, aNil, aCons, eTup, lLst, eFz, eAttr, eCall, lCall, lLc, bYes, gsNil, gsCons, gT, iSeq, iR1, iR2, iZip2, iEnm, sNx, sSeq, sSet, sSetF, sSetFz, sAsg, sExpr, sRet, sRetF, sRetOwn, sRetN, sIf, sApp, sIns, sAug, sFor, sFrz, sFldM, sSetM, sPutD, eMelt, lMelt, eMake, eMakeD, sExt, eDc, eIxG, sRaise, eIsO, iZip3, lLcN, cNext,
  getD, getB, slotL, slotD, slotM, freeze, setD, rowOf_tup, rowOf_lst, Ret_v_val, Ret_v_frl, Ret_f_frl, oItems_lst, oItems_tup, oIx_lst, oIx_tup, oIx_scr, oLen_lst, oLen_tup, oLen_scr, cInt_int, oAdd_int, oSub_int, oInt_int, oTuple_lst, oTuple_tup, oList_lst, oList_tup, oBl_bl, oNot_bl, oSlL_lst, oSlL_scr, oSlT_tup, oSlR_tup, oSlR_lst, oI_int, oAttr_obj, at0, at1, at2, at3, at4, at5, oNeg_int, oRev_lst, Int.reduceNeg, oAug_int, oSlR_scr, cEq_int, oSeq_lst, oSeq_tup, lcItem, calm_ok, cElt, wipeE, if_true, if_false, Bool.false_eq_true, Bool.true_eq_false, Bool.not_true, Bool.not_false, reduceCtorEq, mkL_ok, oMod_int, oDiv_int, oMul_int, oPow_10_18, Int.reduceLT, Int.reduceLE, Int.reduceNeg, Int.reducePow, Nat.reduceLeDiff, Nat.reduceLT, and_self, true_or, or_true, and_true, true_and, Nat.zero_le, Int.zero_add, decide_true, decide_false, *])

/-! ### what a chain does -/
theorem m_on {dw : D} {ws : List D} {os : List Out3} (hd : IsRow dw ws) (hr : All2 OutRow ws os) (hs : ∀ o ∈ os, PyData.strOk o.1 = true) {ch : Str} (hc : PyData.strOk ch = true) (hl : os.length ≤ 100000) : m_messages_on [dw, .str ch] = .ok (.frl ((onCh os ch).map msgD)) := by
  have l2 := hr.len
  unfold m_messages_on
  walk_at "mir"
  rw [hd.items]
  walk_at "mir"
  rw [lc_filter2 (p := fun o : Out3 => o.1 == ch) (f := fun o => msgD (o.2.1, o.2.2)) (by omega) (hr.imp fun d o ho h => by
    have h : IsRow d [.str o.1, .str o.2.1, .int o.2.2] := h
    unfold t_messages_on_1 e_messages_on_1
    walk_at "mir"
    rw [h.row]
    walk_at "mir"
    rw [cEq_str (hs o ho) hc]
    walk_at "mir"
    cases o.1 == ch <;> rfl)]
  walk_at "mir"
  simp only [onCh, List.map_map, Function.comp_def]
theorem cstep_loop {c : CPlan} {db dm : D} {ds : List D} (hd : IsRow db ds) : ∀ (ps : List Prog) (ls : List Str) (cs : List Plc) (ms : List Msg) (k : Nat) (dms : D) (mds : List D) (R : List Plc) (P : List Part) (j6 j7 j8 j9 : Option S),
    c.progs.drop k = ps → c.links.drop k = ls → (ps ≠ [] → ChainOk ⟨ps, ls⟩) → All2 (fun p x => PlaceOk p.sts x) ps cs → All2 PlaceRow (ds.drop k) cs → (∀ p, ps.head? = some p → ∀ m ∈ ms, m.1 ∈ p.names) → ms.length * 3 ^ ps.length ≤ 100 → IsRow dms mds → All2 MsgRow mds ms → R.length + ps.length ≤ 10 → P.length + ps.length ≤ 10 →
    ∃ dms' j6' j7' j8' j9', forD (gT 2 (gsCons (setD 6) (gsCons (setD 7) gsNil))) b_chain_step_1 (enumD k (ps.map revD)) [some (S.d (chainD c)), some (S.d db), some (S.d dm), some (S.d dms), some (S.ml (R.map placeD)), some (S.ml (P.map partD)), j6, j7, j8, j9] =
      some (.nx [some (S.d (chainD c)), some (S.d db), some (S.d dm), some (S.d dms'), some (S.ml ((R ++ plcsOf (chainP ps ls cs ms)).map placeD)), some (S.ml ((P ++ chainP ps ls cs ms).map partD)), j6', j7', j8', j9']) := by
  intro ps
  induction ps with
  | nil =>
    intro ls cs ms k dms mds R P j6 j7 j8 j9 _ _ _ h4 _ _ _ _ _ _ _
    cases h4
    exact ⟨dms, j6, j7, j8, j9, by simp [enumD, forD, chainP]⟩
  | cons p ps ih =>
    intro ls cs ms k dms mds R P j6 j7 j8 j9 h1 h2 h3 h4 h5 h6 h7 h8 h9 h10 h11
    have hok := h3 (by simp)
    have pk := hok.ok p List.mem_cons_self
    have hlen := hok.len
    cases h4 with
    | @cons _ x _ cs' q1 q2 =>
      have l1 : k < ds.length := by
        have := h5.len
        simp at this
        omega
      rw [List.drop_eq_getElem_cons l1] at h5
      cases h5 with
      | cons e1 e2 =>
        have hm := h6 p rfl
        have hm100 : ms.length ≤ 100 := by
          have h0 : 1 ≤ 3 ^ (ps.length + 1) := Nat.one_le_pow _ _ (by decide)
          have h1 : ms.length * 1 ≤ ms.length * 3 ^ (ps.length + 1) := Nat.mul_le_mul_left _ h0
          have h7 : ms.length * 3 ^ (ps.length + 1) ≤ 100 := h7
          omega
        have eh := m_heard pk (rs := p.rules.reverse) (List.reverse_perm _) q1 hm (by omega) e1 h8 h9
        obtain ⟨k1, k2, k3⟩ := hearP_ok pk (ms := ms) q1 hm
        have edb : oIx db (.int (k : Int)) = some ds[k] := by rw [hd.ix, atI_ofNat, List.getElem?_eq_getElem l1]
        have hd1 : c.progs.drop (k + 1) = ps := by rw [← List.drop_drop, h1]; rfl
        have hd2 : c.links.drop (k + 1) = ls.tail := by rw [← List.drop_drop, h2]; simp
        have hRl : (R.map placeD).length < 16777216 := by simp at h10 ⊢; omega
        have hPl : (P.map partD).length < 16777216 := by simp at h11 ⊢; omega
        have body : ∃ dms' mds', IsRow dms' mds' ∧ All2 MsgRow mds' (nextMs ls (hearP p x ms).2 ms) ∧
            b_chain_step_1 [some (S.d (chainD c)), some (S.d db), some (S.d dm), some (S.d dms), some (S.ml (R.map placeD)), some (S.ml (P.map partD)), some (S.d (.int (k : Int))), some (S.d (revD p)), j8, j9] =
            some (.nx [some (S.d (chainD c)), some (S.d db), some (S.d dm), some (S.d dms'), some (S.ml ((R ++ [(hearP p x ms).1]).map placeD)), some (S.ml ((P ++ [hearP p x ms]).map partD)), some (S.d (.int (k : Int))), some (S.d (revD p)), some (S.d (placeD (hearP p x ms).1)), some (S.d (.tup ((hearP p x ms).2.map outD)))]) := by
          have common : ∀ rest : DL.Env → Option Out, True := fun _ => trivial
          cases ls with
          | nil =>
            have hk : decide ((k : Int) < ((c.links.map D.str).length : Int)) = false := by
              have : c.links.length ≤ k := List.drop_eq_nil_iff.mp h2
              simp; omega
            refine ⟨dms, mds, h8, h9, ?_⟩
            unfold b_chain_step_1
            rw [show chainD c = .obj "Chain" (chainFields c) from rfl]
            walk_at "mir"
            rw [edb]
            walk_at "mir"
            rw [eh]
            walk_at "mir"
            simp only [hRl, if_true]
            walk_at "mir"
            simp only [hPl, if_true]
            walk_at "mir"
            rw [linksC]
            walk_at "mir"
            rw [hk]
            walk_at "mir"
            simp only [List.map_append, List.map_cons, List.map_nil]
          | cons l ls' =>
            have hkl : k < c.links.length := by
              have := congrArg List.length h2
              simp at this
              omega
            have el : c.links[k]? = some l := by
              have := congrArg (fun z : List Str => z[0]?) h2
              simpa using this
            have hk : decide ((k : Int) < ((c.links.map D.str).length : Int)) = true := by simp; omega
            obtain ⟨q, hq⟩ : ∃ q, ps[0]? = some q := by
              cases ps with
              | nil => simp at hlen
              | cons q _ => exact ⟨q, rfl⟩
            obtain ⟨ch, hch, el2, en⟩ := hok.link 0 p q l rfl (by simpa using hq) rfl
            have lok : PyData.strOk l = true := by rw [← el2]; exact (pk.chs.names.word _ (List.mem_map_of_mem hch)).1.ok
            have eon := m_on (dw := .tup ((hearP p x ms).2.map outD)) (.inr rfl) (All2.self fun o _ => outRow_tup o) (fun o ho => (outOf_str pk (k3 o ho)).1) lok (by omega)
            refine ⟨.lst ((onCh (hearP p x ms).2 l).map msgD), (onCh (hearP p x ms).2 l).map msgD, .inl rfl, All2.self fun m _ => msgRow_tup m, ?_⟩
            unfold b_chain_step_1
            rw [show chainD c = .obj "Chain" (chainFields c) from rfl]
            walk_at "mir"
            rw [edb]
            walk_at "mir"
            rw [eh]
            walk_at "mir"
            simp only [hRl, if_true]
            walk_at "mir"
            simp only [hPl, if_true]
            walk_at "mir"
            rw [linksC]
            walk_at "mir"
            rw [hk]
            walk_at "mir"
            rw [at_map (i := (k : Int)) rfl el]
            walk_at "mir"
            rw [eon]
            walk_at "mir"
            simp only [List.map_append, List.map_cons, List.map_nil]
        obtain ⟨dms', mds', b1, b2, b3⟩ := body
        have tl : ps ≠ [] → ChainOk ⟨ps, ls.tail⟩ := fun hne => hok.tail (by
          cases ps with
          | nil => exact absurd rfl hne
          | cons _ _ => simp)
        have nn : ∀ p', ps.head? = some p' → ∀ m ∈ nextMs ls (hearP p x ms).2 ms, m.1 ∈ p'.names := by
          intro p' hp' m hm'
          cases ps with
          | nil => cases hp'
          | cons q qs =>
            cases hp'
            cases ls with
            | nil => simp at hlen
            | cons l ls' =>
              obtain ⟨ch, hch, el2, en⟩ := hok.link 0 p _ l rfl rfl rfl
              rw [← en]
              rw [show nextMs (l :: ls') (hearP p x ms).2 ms = onCh (hearP p x ms).2 l from rfl, ← el2] at hm'
              exact onCh_names pk k3 hch m hm'
        have nb : (nextMs ls (hearP p x ms).2 ms).length * 3 ^ ps.length ≤ 100 := by
          have h7 : ms.length * 3 ^ (ps.length + 1) ≤ 100 := h7
          rw [Nat.pow_succ] at h7
          have hle : (nextMs ls (hearP p x ms).2 ms).length ≤ ms.length * 3 := by
            cases ls with
            | nil => show ms.length ≤ _; omega
            | cons l ls' => have := onCh_len (hearP p x ms).2 l; show (onCh (hearP p x ms).2 l).length ≤ _; omega
          calc _ ≤ ms.length * 3 * 3 ^ ps.length := Nat.mul_le_mul_right _ hle
            _ = ms.length * (3 ^ ps.length * 3) := by rw [Nat.mul_assoc, Nat.mul_comm 3]
            _ ≤ 100 := h7
        obtain ⟨dms2, j6', j7', j8', j9', e⟩ := ih ls.tail cs' (nextMs ls (hearP p x ms).2 ms) (k + 1) dms' mds' (R ++ [(hearP p x ms).1]) (P ++ [hearP p x ms]) (some (S.d (.int (k : Int)))) (some (S.d (revD p))) (some (S.d (placeD (hearP p x ms).1))) (some (S.d (.tup ((hearP p x ms).2.map outD)))) hd1 hd2 tl q2 e2 nn nb b1 b2 (by simp at h10 ⊢; omega) (by simp at h11 ⊢; omega)
        refine ⟨dms2, j6', j7', j8', j9', ?_⟩
        rw [List.map_cons]
        unfold enumD
        unfold forD
        have eg : gT 2 (gsCons (setD 6) (gsCons (setD 7) gsNil)) (.tup [.int (k : Int), revD p]) [some (S.d (chainD c)), some (S.d db), some (S.d dm), some (S.d dms), some (S.ml (R.map placeD)), some (S.ml (P.map partD)), j6, j7, j8, j9] =
            some [some (S.d (chainD c)), some (S.d db), some (S.d dm), some (S.d dms), some (S.ml (R.map placeD)), some (S.ml (P.map partD)), some (S.d (.int (k : Int))), some (S.d (revD p)), j8, j9] := rfl
        rw [eg]
        simp only [Option.bind_some, b3, afterO_nx]
        rw [e]
        have ec : chainP (p :: ps) ls (x :: cs') ms = hearP p x ms :: chainP ps ls.tail cs' (nextMs ls (hearP p x ms).2 ms) := rfl
        rw [ec]
        simp only [List.append_assoc, List.cons_append, List.nil_append, plcsOf, List.map_cons]
theorem m_cstep {c : CPlan} (hc : ChainOk c) {cs : List Plc} (hp : PlacesOk c cs) {db dm : D} {ds : List D} (hd : IsRow db ds) (hr : All2 PlaceRow ds cs) {m : Msg} (h3 : MsgRow dm m) (hm : ∀ p, c.progs.head? = some p → m.1 ∈ p.names) :
    m_chain_step [chainD c, db, dm] = .ok (.val (.tup [.tup ((plcsOf (c.stepC cs m)).map placeD), stepD (c.stepC cs m)])) := by
  have h4 := hc.le
  obtain ⟨dms', j6, j7, j8, j9, e⟩ := cstep_loop (c := c) (dm := dm) hd c.progs c.links cs [m] 0 (.lst [dm]) [dm] [] [] none none none none rfl rfl (fun _ => hc) hp (by simpa using hr) (fun p e x hx => by rw [List.mem_singleton.mp hx]; exact hm p e) (by
    calc [m].length * 3 ^ c.progs.length ≤ 1 * 3 ^ 3 := Nat.mul_le_mul (by simp) (Nat.pow_le_pow_right (by decide) h4)
      _ ≤ 100 := by decide) (.inl rfl) (.cons h3 .nil) (by simp; omega) (by simp; omega)
  unfold m_chain_step
  rw [show chainD c = .obj "Chain" (chainFields c) from rfl]
  walk_at "mir"
  rw [programsC]
  walk_at "mir"
  rw [show oEnum (.tup (c.progs.map revD)) = some (enumD 0 (c.progs.map revD)) from rfl]
  walk_at "mir"
  simp only [List.map_nil, List.nil_append, show chainD c = .obj "Chain" (chainFields c) from rfl] at e
  rw [e]
  walk_at "mir"

theorem m_deedfrom {c : CPlan} (hc : ChainOk c) {cs : List Plc} (hp : PlacesOk c cs) {db dms : D} {ds mds : List D} (hd : IsRow db ds) (hr : All2 PlaceRow ds cs) {ms : List Msg} (h3 : IsRow dms mds) (h4 : All2 MsgRow mds ms) (hm : ∀ p, c.progs.head? = some p → ∀ m ∈ ms, m.1 ∈ p.names) (hl : ms.length ≤ 5000) :
    m_deed_from [chainD c, db, dms] = .ok (.frl ((c.deedC cs ms).map stepD)) := by
  obtain ⟨p, hp0⟩ : ∃ p, c.progs[0]? = some p := by
    have := hc.ne
    exact ⟨c.progs[0], List.getElem?_eq_getElem (by omega)⟩
  have hh : c.progs.head? = some p := by rw [List.head?_eq_getElem?]; exact hp0
  have loop : ∀ {mds : List D} {ms : List Msg}, All2 MsgRow mds ms → (∀ p, c.progs.head? = some p → ∀ m ∈ ms, m.1 ∈ p.names) → ∀ (cs : List Plc) (d : D) (ds : List D) (acc : List (List Part)) (j5 j6 : Option S), PlacesOk c cs → IsRow d ds → All2 PlaceRow ds cs → acc.length + ms.length ≤ 10000 →
      ∃ d' j5' j6', forD (setD 5) b_deed_from_1 mds [some (S.d (chainD c)), some (S.d db), some (S.d dms), some (S.ml (acc.map stepD)), some (S.d d), j5, j6] =
        some (.nx [some (S.d (chainD c)), some (S.d db), some (S.d dms), some (S.ml ((acc ++ c.deedC cs ms).map stepD)), some (S.d d'), j5', j6']) := by
    intro mds ms h4
    induction h4 with
    | nil => intro _ cs d ds acc j5 j6 _ _ _ _; exact ⟨d, j5, j6, by simp [forD, CPlan.deedC]⟩
    | @cons x m mds ms a t ih =>
      intro hm cs d ds acc j5 j6 hp hd hr hl
      have hm0 : ∀ p, c.progs.head? = some p → m.1 ∈ p.names := fun p e => hm p e m List.mem_cons_self
      have es := m_cstep hc hp hd hr a hm0
      obtain ⟨k1, k2, k3⟩ := stepC_ok hc hp hm0
      have hl' : acc.length + (ms.length + 1) ≤ 10000 := by simpa using hl
      have hal : (acc.map stepD).length < 16777216 := by simp; omega
      obtain ⟨d', j5', j6', e⟩ := ih (fun p e y hy => hm p e y (List.mem_cons_of_mem _ hy)) (plcsOf (c.stepC cs m)) (.tup ((plcsOf (c.stepC cs m)).map placeD)) _ (acc ++ [c.stepC cs m]) (some (S.d x)) (some (S.d (stepD (c.stepC cs m)))) k1 (.inr rfl) (All2.self fun y _ => placeRow_tup y) (by simp; omega)
      refine ⟨d', j5', j6', ?_⟩
      unfold forD
      have eb : b_deed_from_1 [some (S.d (chainD c)), some (S.d db), some (S.d dms), some (S.ml (acc.map stepD)), some (S.d d), some (S.d x), j6] =
          some (.nx [some (S.d (chainD c)), some (S.d db), some (S.d dms), some (S.ml ((acc ++ [c.stepC cs m]).map stepD)), some (S.d (.tup ((plcsOf (c.stepC cs m)).map placeD))), some (S.d x), some (S.d (stepD (c.stepC cs m)))]) := by
        unfold b_deed_from_1
        walk_at "mir"
        rw [es]
        walk_at "mir"
        simp only [hal, if_true, List.map_append, List.map_cons, List.map_nil]
      simp only [setD, Option.bind_some, List.set_cons_zero, List.set_cons_succ, eb, afterO_nx]
      rw [e]
      simp only [CPlan.deedC, List.append_assoc, List.cons_append, List.nil_append]
  unfold m_deed_from
  walk_at "mir"
  rw [m_isbeg hc hp hd hr]
  walk_at "mir"
  rw [m_isinput hp0 h3 h4 (hm p hh) hl]
  walk_at "mir"
  rw [h3.items]
  walk_at "mir"
  obtain ⟨d', j5, j6, e⟩ := loop h4 hm cs db ds [] none none hp hd hr (by simp; omega)
  simp only [List.map_nil, List.nil_append] at e
  rw [e]
  walk_at "mir"

end K09
namespace K09
open PySem PySem.Spec PyProof.Rows L2 DL
local macro_rules | `(tactic| walk_at "mir") => `(tactic| try simp (implicitDefEqProofs := false) only [runD, startE, endO, List.map_cons, List.map_nil, List.length_cons, List.length_nil, Nat.sub_self, Nat.reduceAdd, Nat.reduceSub, Nat.reduceMul, List.replicate, List.cons_append, List.nil_append, if_pos, R.bind_ok, R.of_some, R.map_ok, Option.bind_some, Option.map_some, withR_ok, seqO_nx, seqO_rt, List.set_cons_zero, List.set_cons_succ, List.getElem?_cons_zero, List.getElem?_cons_succ,
  eC, eOp, lOp, eCmp, bCmp, eNotInD, eUn, lUn, eIsi, eIsi2, eIf, eAnd, eOr, bAnd, bOr, bNot, bVal, eChain, bChain, pNone, pSome, lSl, eSlT, eSlR, aNil, aCons, eTup, lLst, eFz, eAttr, eCall, lCall, lLc, bYes, gsNil, gsCons, gT, iSeq, iR1, iR2, iZip2, iEnm, sNx, sSeq, sSet, sSetF, sSetFz, sAsg, sExpr, sRet, sRetF, sRetOwn, sRetN, sIf, sApp, sIns, sAug, sFor, sFrz, sFldM, sSetM, sPutD, eMelt, lMelt, eMake, eMakeD, sExt, eDc, eIxG, sRaise, eIsO, iZip3, lLcN, cNext,
  getD, getB, slotL, slotD, slotM, freeze, setD, rowOf_tup, rowOf_lst, Ret_v_val, Ret_v_frl, Ret_f_frl, oItems_lst, oItems_tup, oIx_lst, oIx_tup, oIx_scr, oLen_lst, oLen_tup, oLen_scr, cInt_int, oAdd_int, oSub_int, oInt_int, oTuple_lst, oTuple_tup, oList_lst, oList_tup, oBl_bl, oNot_bl, oSlL_lst, oSlL_scr, oSlT_tup, oSlR_tup, oSlR_lst, oI_int, oAttr_obj, at0, at1, at2, at3, at4, at5, oNeg_int, oRev_lst, Int.reduceNeg, oAug_int, oSlR_scr, cEq_int, oSeq_lst, oSeq_tup, lcItem, calm_ok, cElt, wipeE, if_true, if_false, Bool.false_eq_true, Bool.true_eq_false, Bool.not_true, Bool.not_false, reduceCtorEq, mkL_ok, oMod_int, oDiv_int, oMul_int, oPow_10_18, Int.reduceLT, Int.reduceLE, Int.reduceNeg, Int.reducePow, Nat.reduceLeDiff, Nat.reduceLT, and_self, true_or, or_true, and_true, true_and, Nat.zero_le, Int.zero_add])
local macro_rules | `(tactic| walk_at "mir*") => `(tactic| try simp (implicitDefEqProofs := false) only [runD, startE, endO, List.map_cons, List.map_nil, List.length_cons, List.length_nil, Nat.sub_self, Nat.reduceAdd, Nat.reduceSub, Nat.reduceMul, List.replicate, List.cons_append, List.nil_append, if_pos, R.bind_ok, R.of_some, R.map_ok, Option.bind_some, Option.map_some, withR_ok, seqO_nx, seqO_rt, List.set_cons_zero, List.set_cons_succ, List.getElem?_cons_zero, List.getElem?_cons_succ,
  eC, eOp, lOp, eCmp, bCmp, eNotInD, eUn, lUn, eIsi, eIsi2, eIf, eAnd, eOr, bAnd, bOr, bNot, bVal, eChain, bChain, pNone, pSome, lSl, eSlT, eSlR, aNil, aCons, eTup, lLst, eFz, eAttr, eCall, lCall, lLc, bYes, gsNil, gsCons, gT, iSeq, iR1, iR2, iZip2, iEnm, sNx, sSeq, sSet, sSetF, sSetFz, sAsg, sExpr, sRet, sRetF, sRetOwn, sRetN, sIf, sApp, sIns, sAug, sFor, sFrz, sFldM, sSetM, sPutD, eMelt, lMelt, eMake, eMakeD, sExt, eDc, eIxG, sRaise, eIsO, iZip3, lLcN, cNext,
  getD, getB, slotL, slotD, slotM, freeze, setD, rowOf_tup, rowOf_lst, Ret_v_val, Ret_v_frl, Ret_f_frl, oItems_lst, oItems_tup, oIx_lst, oIx_tup, oIx_scr, oLen_lst, oLen_tup, oLen_scr, cInt_int, oAdd_int, oSub_int, oInt_int, oTuple_lst, oTuple_tup, oList_lst, oList_tup, oBl_bl, oNot_bl, oSlL_lst, oSlL_scr, oSlT_tup, oSlR_tup, oSlR_lst, oI_int, oAttr_obj, at0, at1, at2, at3, at4, at5, oNeg_int, oRev_lst, Int.reduceNeg, oAug_int, oSlR_scr, cEq_int, oSeq_lst, oSeq_tup, lcItem, calm_ok, cElt, wipeE, if_true, if_false, Bool.false_eq_true, Bool.true_eq_false, Bool.not_true, Bool.not_false, reduceCtorEq, mkL_ok, oMod_int, oDiv_int, oMul_int, oPow_10_18, Int.reduceLT, Int.reduceLE, Int.reduceNeg, Int.reducePow, Nat.reduceLeDiff, Nat.reduceLT, and_self, true_or, or_true, and_true, true_and, Nat.zero_le, Int.zero_add, decide_true, decide_false, *])

/-! ### the law's own chain -/
theorem m_lawstepP {p : Prog} (hp : ProgOk p) {c : Plc} (hc : PlaceOk p.sts c) {m : Msg} (hn : m.1 ∈ p.names) :
    m__law_step [.lst (planD p), placeD c, msgD m] = .ok (.frl [placeD (stepP p c m).1, .tup ((stepP p c m).2.map outD)]) := by
  obtain ⟨r, hr, hk⟩ := rule_there hp hc hn m.2
  rw [stepP_rule hp hr hk]
  exact m_lawstep hp hc hn m.2 hr hk
theorem lawcstep_loop {c : CPlan} {dps dm : D} {cs0 : List Plc} (hd : dps = .tup (cs0.map placeD)) : ∀ (ps : List Prog) (ls : List Str) (cs : List Plc) (ms : List Msg) (k : Nat) (R : List Plc) (P : List Part) (j6 j7 j8 j9 j10 : Option S),
    c.progs.drop k = ps → c.links.drop k = ls → (ps ≠ [] → ChainOk ⟨ps, ls⟩) → All2 (fun p x => PlaceOk p.sts x) ps cs → cs0.drop k = cs → (∀ p, ps.head? = some p → ∀ m ∈ ms, m.1 ∈ p.names) → ms.length * 3 ^ ps.length ≤ 100 → R.length + ps.length ≤ 10 → P.length + ps.length ≤ 10 →
    ∃ dms' j6' j7' j8' j9' j10', forD (setD 6) b__law_chain_step_2 ((List.range' k ps.length).map fun (i : Nat) => D.int (i : Int)) [some (S.d (.lst (cplanD c))), some (S.d dps), some (S.d dm), some (S.d (.lst (ms.map msgD))), some (S.ml (R.map placeD)), some (S.ml (P.map partD)), j6, j7, j8, j9, j10, none] =
      some (.nx [some (S.d (.lst (cplanD c))), some (S.d dps), some (S.d dm), some (S.d dms'), some (S.ml ((R ++ plcsOf (chainP ps ls cs ms)).map placeD)), some (S.ml ((P ++ chainP ps ls cs ms).map partD)), j6', j7', j8', j9', j10', none]) := by
  intro ps
  induction ps with
  | nil =>
    intro ls cs ms k R P j6 j7 j8 j9 j10 _ _ _ h4 _ _ _ _ _
    cases h4
    exact ⟨.lst (ms.map msgD), j6, j7, j8, j9, j10, by simp [forD, chainP]⟩
  | cons p ps ih =>
    intro ls cs ms k R P j6 j7 j8 j9 j10 h1 h2 h3 h4 h5 h6 h7 h10 h11
    have hok := h3 (by simp)
    have pk := hok.ok p List.mem_cons_self
    have hlen := hok.len
    cases h4 with
    | @cons _ x _ cs' q1 q2 =>
      have hm := h6 p rfl
      have hm100 : ms.length ≤ 100 := by
        have h0 : 1 ≤ 3 ^ (ps.length + 1) := Nat.one_le_pow _ _ (by decide)
        have h1 : ms.length * 1 ≤ ms.length * 3 ^ (ps.length + 1) := Nat.mul_le_mul_left _ h0
        have h7 : ms.length * 3 ^ (ps.length + 1) ≤ 100 := h7
        omega
      obtain ⟨k1, k2, k3⟩ := hearP_ok pk (ms := ms) q1 hm
      have ep : c.progs[k]? = some p := by
        have := congrArg (fun z : List Prog => z[0]?) h1
        simpa using this
      have ex : cs0[k]? = some x := by
        have := congrArg (fun z : List Plc => z[0]?) h5
        simpa using this
      have hd1 : c.progs.drop (k + 1) = ps := by rw [← List.drop_drop, h1]; rfl
      have hd2 : c.links.drop (k + 1) = ls.tail := by rw [← List.drop_drop, h2]; simp
      have hd3 : cs0.drop (k + 1) = cs' := by rw [← List.drop_drop, h5]; rfl
      have hRl : (R.map placeD).length < 16777216 := by simp at h10 ⊢; omega
      have hPl : (P.map partD).length < 16777216 := by simp at h11 ⊢; omega
      have inner : ∀ (ms : List Msg), (∀ m ∈ ms, m.1 ∈ p.names) → ∀ (x : Plc) (os : List Out3) (d3 : D) (j9 j10 : Option S), PlaceOk p.sts x → os.length + 3 * ms.length ≤ 10000 → ∃ j9' j10', forD (setD 9) b__law_chain_step_1 (ms.map msgD) [some (S.d (.lst (cplanD c))), some (S.d dps), some (S.d dm), some (S.d d3), some (S.ml (R.map placeD)), some (S.ml (P.map partD)), some (S.d (.int (k : Int))), some (S.d (placeD x)), some (S.d (.tup (os.map outD))), j9, j10, none] =
          some (.nx [some (S.d (.lst (cplanD c))), some (S.d dps), some (S.d dm), some (S.d d3), some (S.ml (R.map placeD)), some (S.ml (P.map partD)), some (S.d (.int (k : Int))), some (S.d (placeD (hearP p x ms).1)), some (S.d (.tup ((os ++ (hearP p x ms).2).map outD))), j9', j10', none]) := by
        intro ms
        induction ms with
        | nil => intro _ x os d3 j9 j10 _ _; exact ⟨j9, j10, by simp [forD, hearP]⟩
        | cons m ms ihm =>
          intro hm x os d3 j9 j10 hx hl
          have hmn := hm m List.mem_cons_self
          obtain ⟨s1, s2, s3⟩ := stepP_ok pk hx hmn
          have hl' : os.length + 3 * (ms.length + 1) ≤ 10000 := by simpa using hl
          obtain ⟨j9', j10', e⟩ := ihm (fun y hy => hm y (List.mem_cons_of_mem _ hy)) _ (os ++ (stepP p x m).2) d3 (some (S.d (msgD m))) (some (S.d (.tup ((stepP p x m).2.map outD)))) s1 (by simp; omega)
          refine ⟨j9', j10', ?_⟩
          rw [List.map_cons]
          unfold forD
          have es := m_lawstepP pk hx hmn
          have eb : b__law_chain_step_1 [some (S.d (.lst (cplanD c))), some (S.d dps), some (S.d dm), some (S.d d3), some (S.ml (R.map placeD)), some (S.ml (P.map partD)), some (S.d (.int (k : Int))), some (S.d (placeD x)), some (S.d (.tup (os.map outD))), some (S.d (msgD m)), j10, none] =
              some (.nx [some (S.d (.lst (cplanD c))), some (S.d dps), some (S.d dm), some (S.d d3), some (S.ml (R.map placeD)), some (S.ml (P.map partD)), some (S.d (.int (k : Int))), some (S.d (placeD (stepP p x m).1)), some (S.d (.tup ((os ++ (stepP p x m).2).map outD))), some (S.d (msgD m)), some (S.d (.tup ((stepP p x m).2.map outD))), none]) := by
            unfold b__law_chain_step_1
            rw [show cplanD c = [.lst (c.progs.map fun p => .lst (planD p)), .lst (c.links.map .str)] from rfl]
            walk_at "mir"
            rw [at_map (i := (k : Int)) rfl ep]
            walk_at "mir"
            rw [es]
            walk_at "mir"
            rw [show oAdd (.tup (os.map outD)) (.tup ((stepP p x m).2.map outD)) = some (.tup ((os ++ (stepP p x m).2).map outD)) by
              rw [List.map_append]
              exact if_pos (by simp; omega)]
            walk_at "mir"
          simp only [setD, Option.bind_some, List.set_cons_zero, List.set_cons_succ, eb, afterO_nx]
          rw [e]
          simp only [hearP, List.append_assoc]
      obtain ⟨j9', j10', ei⟩ := inner ms hm x [] (.lst (ms.map msgD)) j9 j10 q1 (by simp; omega)
      simp only [List.map_nil, List.nil_append] at ei
      have body : ∃ j9' j10', b__law_chain_step_2 [some (S.d (.lst (cplanD c))), some (S.d dps), some (S.d dm), some (S.d (.lst (ms.map msgD))), some (S.ml (R.map placeD)), some (S.ml (P.map partD)), some (S.d (.int (k : Int))), j7, j8, j9, j10, none] =
          some (.nx [some (S.d (.lst (cplanD c))), some (S.d dps), some (S.d dm), some (S.d (.lst ((nextMs ls (hearP p x ms).2 ms).map msgD))), some (S.ml ((R ++ [(hearP p x ms).1]).map placeD)), some (S.ml ((P ++ [hearP p x ms]).map partD)), some (S.d (.int (k : Int))), some (S.d (placeD (hearP p x ms).1)), some (S.d (.tup ((hearP p x ms).2.map outD))), j9', j10', none]) := by
        refine ⟨j9', j10', ?_⟩
        have head : ∀ rest : DL.Env → Option Out, sSeq (sSet 7 (eOp oIx (getB 1) (getB 6))) (sSeq (sSet 8 (eTup aNil)) (sSeq (sFor (iSeq (getD 3)) (setD 9) b__law_chain_step_1) rest)) [some (S.d (.lst (cplanD c))), some (S.d dps), some (S.d dm), some (S.d (.lst (ms.map msgD))), some (S.ml (R.map placeD)), some (S.ml (P.map partD)), some (S.d (.int (k : Int))), j7, j8, j9, j10, none] =
            rest [some (S.d (.lst (cplanD c))), some (S.d dps), some (S.d dm), some (S.d (.lst (ms.map msgD))), some (S.ml (R.map placeD)), some (S.ml (P.map partD)), some (S.d (.int (k : Int))), some (S.d (placeD (hearP p x ms).1)), some (S.d (.tup ((hearP p x ms).2.map outD))), j9', j10', none] := fun rest => by
          subst hd
          walk_at "mir"
          rw [at_map (i := (k : Int)) rfl ex]
          walk_at "mir"
          rw [ei]
          walk_at "mir"
        unfold b__law_chain_step_2
        rw [head]
        walk_at "mir"
        simp only [hRl, if_true]
        walk_at "mir"
        simp only [hPl, if_true]
        walk_at "mir"
        rw [show cplanD c = [.lst (c.progs.map fun p => .lst (planD p)), .lst (c.links.map .str)] from rfl]
        walk_at "mir"
        cases ls with
        | nil =>
          have hk : decide ((k : Int) < ((c.links.map D.str).length : Int)) = false := by
            have : c.links.length ≤ k := List.drop_eq_nil_iff.mp h2
            simp; omega
          rw [hk]
          walk_at "mir"
          simp only [List.map_append, List.map_cons, List.map_nil, nextMs]
        | cons l ls' =>
          have hkl : k < c.links.length := by
            have := congrArg List.length h2
            simp at this
            omega
          have el : c.links[k]? = some l := by
            have := congrArg (fun z : List Str => z[0]?) h2
            simpa using this
          have hk : decide ((k : Int) < ((c.links.map D.str).length : Int)) = true := by simp; omega
          obtain ⟨q, hq⟩ : ∃ q, ps[0]? = some q := by
            cases ps with
            | nil => simp at hlen
            | cons q _ => exact ⟨q, rfl⟩
          obtain ⟨ch, hch, el2, en⟩ := hok.link 0 p q l rfl (by simpa using hq) rfl
          have lok : PyData.strOk l = true := by rw [← el2]; exact (pk.chs.names.word _ (List.mem_map_of_mem hch)).1.ok
          rw [hk]
          walk_at "mir"
          rw [lc_filter outD (p := fun o : Out3 => o.1 == l) (f := fun o => msgD (o.2.1, o.2.2)) (by omega) (fun o ho => by
            unfold t__law_chain_step_1 e__law_chain_step_1
            walk_at "mir"
            rw [at_map (i := (k : Int)) rfl el]
            walk_at "mir"
            rw [cEq_str (outOf_str pk (k3 o ho)).1 lok]
            walk_at "mir"
            cases o.1 == l <;> rfl)]
          walk_at "mir"
          simp only [List.map_append, List.map_cons, List.map_nil, nextMs, onCh, List.map_map, Function.comp_def]
      obtain ⟨j9', j10', b3⟩ := body
      have tl : ps ≠ [] → ChainOk ⟨ps, ls.tail⟩ := fun hne => hok.tail (by
        cases ps with
        | nil => exact absurd rfl hne
        | cons _ _ => simp)
      have nn : ∀ p', ps.head? = some p' → ∀ m ∈ nextMs ls (hearP p x ms).2 ms, m.1 ∈ p'.names := by
        intro p' hp' m hm'
        cases ps with
        | nil => cases hp'
        | cons q qs =>
          cases hp'
          cases ls with
          | nil => simp at hlen
          | cons l ls' =>
            obtain ⟨ch, hch, el2, en⟩ := hok.link 0 p _ l rfl rfl rfl
            rw [← en]
            rw [show nextMs (l :: ls') (hearP p x ms).2 ms = onCh (hearP p x ms).2 l from rfl, ← el2] at hm'
            exact onCh_names pk k3 hch m hm'
      have nb : (nextMs ls (hearP p x ms).2 ms).length * 3 ^ ps.length ≤ 100 := by
        have h7 : ms.length * 3 ^ (ps.length + 1) ≤ 100 := h7
        rw [Nat.pow_succ] at h7
        have hle : (nextMs ls (hearP p x ms).2 ms).length ≤ ms.length * 3 := by
          cases ls with
          | nil => show ms.length ≤ _; omega
          | cons l ls' => have := onCh_len (hearP p x ms).2 l; show (onCh (hearP p x ms).2 l).length ≤ _; omega
        calc _ ≤ ms.length * 3 * 3 ^ ps.length := Nat.mul_le_mul_right _ hle
          _ = ms.length * (3 ^ ps.length * 3) := by rw [Nat.mul_assoc, Nat.mul_comm 3]
          _ ≤ 100 := h7
      obtain ⟨dms2, j6', j7', j8', j9'', j10'', e⟩ := ih ls.tail cs' (nextMs ls (hearP p x ms).2 ms) (k + 1) (R ++ [(hearP p x ms).1]) (P ++ [hearP p x ms]) (some (S.d (.int (k : Int)))) (some (S.d (placeD (hearP p x ms).1))) (some (S.d (.tup ((hearP p x ms).2.map outD)))) j9' j10' hd1 hd2 tl q2 hd3 nn nb (by simp at h10 ⊢; omega) (by simp at h11 ⊢; omega)
      refine ⟨dms2, j6', j7', j8', j9'', j10'', ?_⟩
      rw [List.length_cons, List.range'_succ, List.map_cons]
      unfold forD
      simp only [setD, Option.bind_some, List.set_cons_zero, List.set_cons_succ, b3, afterO_nx]
      rw [e]
      have ec : chainP (p :: ps) ls (x :: cs') ms = hearP p x ms :: chainP ps ls.tail cs' (nextMs ls (hearP p x ms).2 ms) := rfl
      rw [ec]
      simp only [List.append_assoc, List.cons_append, List.nil_append, plcsOf, List.map_cons]

end K09
namespace K09
open PySem PySem.Spec PyProof.Rows L2 DL
local macro_rules | `(tactic| walk_at "mir") => `(tactic| try simp (implicitDefEqProofs := false) only [runD, startE, endO, List.map_cons, List.map_nil, List.length_cons, List.length_nil, Nat.sub_self, Nat.reduceAdd, Nat.reduceSub, Nat.reduceMul, List.replicate, List.cons_append, List.nil_append, if_pos, R.bind_ok, R.of_some, R.map_ok, Option.bind_some, Option.map_some, withR_ok, seqO_nx, seqO_rt, List.set_cons_zero, List.set_cons_succ, List.getElem?_cons_zero, List.getElem?_cons_succ,
  eC, eOp, lOp, eCmp, bCmp, eNotInD, eUn, lUn, eIsi, eIsi2, eIf, eAnd, eOr, bAnd, bOr, bNot, bVal, eChain, bChain, pNone, pSome, lSl, eSlT, eSlR, aNil, aCons, eTup, lLst, eFz, eAttr, eCall, lCall, lLc, bYes, gsNil, gsCons, gT, iSeq, iR1, iR2, iZip2, iEnm, sNx, sSeq, sSet, sSetF, sSetFz, sAsg, sExpr, sRet, sRetF, sRetOwn, sRetN, sIf, sApp, sIns, sAug, sFor, sFrz, sFldM, sSetM, sPutD, eMelt, lMelt, eMake, eMakeD, sExt, eDc, eIxG, sRaise, eIsO, iZip3, lLcN, cNext,
  getD, getB, slotL, slotD, slotM, freeze, setD, rowOf_tup, rowOf_lst, Ret_v_val, Ret_v_frl, Ret_f_frl, oItems_lst, oItems_tup, oIx_lst, oIx_tup, oIx_scr, oLen_lst, oLen_tup, oLen_scr, cInt_int, oAdd_int, oSub_int, oInt_int, oTuple_lst, oTuple_tup, oList_lst, oList_tup, oBl_bl, oNot_bl, oSlL_lst, oSlL_scr, oSlT_tup, oSlR_tup, oSlR_lst, oI_int, oAttr_obj, at0, at1, at2, at3, at4, at5, oNeg_int, oRev_lst, Int.reduceNeg, oAug_int, oSlR_scr, cEq_int, oSeq_lst, oSeq_tup, lcItem, calm_ok, cElt, wipeE, if_true, if_false, Bool.false_eq_true, Bool.true_eq_false, Bool.not_true, Bool.not_false, reduceCtorEq, mkL_ok, oMod_int, oDiv_int, oMul_int, oPow_10_18, Int.reduceLT, Int.reduceLE, Int.reduceNeg, Int.reducePow, Nat.reduceLeDiff, Nat.reduceLT, and_self, true_or, or_true, and_true, true_and, Nat.zero_le, Int.zero_add])
local macro_rules | `(tactic| walk_at "mir*") => `(tactic| try simp (implicitDefEqProofs := false) only [runD, startE, endO, List.map_cons, List.map_nil, List.length_cons, List.length_nil, Nat.sub_self, Nat.reduceAdd, Nat.reduceSub, Nat.reduceMul, List.replicate, List.cons_append, List.nil_append, if_pos, R.bind_ok, R.of_some, R.map_ok, Option.bind_some, Option.map_some, withR_ok, seqO_nx, seqO_rt, List.set_cons_zero, List.set_cons_succ, List.getElem?_cons_zero, List.getElem?_cons_succ,
  eC, eOp, lOp, eCmp, bCmp, eNotInD, eUn, lUn, eIsi, eIsi2, eIf, eAnd, eOr, bAnd, bOr, bNot, bVal, eChain, bChain, pNone, pSome, lSl, eSlT, eSlR, aNil, aCons, eTup, lLst, eFz, eAttr, eCall, lCall, lLc, bYes, gsNil, gsCons, gT, iSeq, iR1, iR2, iZip2, iEnm, sNx, sSeq, sSet, sSetF, sSetFz, sAsg, sExpr, sRet, sRetF, sRetOwn, sRetN, sIf, sApp, sIns, sAug, sFor, sFrz, sFldM, sSetM, sPutD, eMelt, lMelt, eMake, eMakeD, sExt, eDc, eIxG, sRaise, eIsO, iZip3, lLcN, cNext,
  getD, getB, slotL, slotD, slotM, freeze, setD, rowOf_tup, rowOf_lst, Ret_v_val, Ret_v_frl, Ret_f_frl, oItems_lst, oItems_tup, oIx_lst, oIx_tup, oIx_scr, oLen_lst, oLen_tup, oLen_scr, cInt_int, oAdd_int, oSub_int, oInt_int, oTuple_lst, oTuple_tup, oList_lst, oList_tup, oBl_bl, oNot_bl, oSlL_lst, oSlL_scr, oSlT_tup, oSlR_tup, oSlR_lst, oI_int, oAttr_obj, at0, at1, at2, at3, at4, at5, oNeg_int, oRev_lst, Int.reduceNeg, oAug_int, oSlR_scr, cEq_int, oSeq_lst, oSeq_tup, lcItem, calm_ok, cElt, wipeE, if_true, if_false, Bool.false_eq_true, Bool.true_eq_false, Bool.not_true, Bool.not_false, reduceCtorEq, mkL_ok, oMod_int, oDiv_int, oMul_int, oPow_10_18, Int.reduceLT, Int.reduceLE, Int.reduceNeg, Int.reducePow, Nat.reduceLeDiff, Nat.reduceLT, and_self, true_or, or_true, and_true, true_and, Nat.zero_le, Int.zero_add, decide_true, decide_false, *])
theorem m_lawcstep {c : CPlan} (hc : ChainOk c) {cs : List Plc} (hp : PlacesOk c cs) {m : Msg} (hm : ∀ p, c.progs.head? = some p → m.1 ∈ p.names) :
    m__law_chain_step [.lst (cplanD c), .tup (cs.map placeD), msgD m] = .ok (.frl [.tup ((plcsOf (c.stepC cs m)).map placeD), stepD (c.stepC cs m)]) := by
  have h4 := hc.le
  obtain ⟨dms', j6, j7, j8, j9, j10, e⟩ := lawcstep_loop (c := c) (dm := msgD m) (cs0 := cs) rfl c.progs c.links cs [m] 0 [] [] none none none none none rfl rfl (fun _ => hc) hp rfl (fun p e x hx => by rw [List.mem_singleton.mp hx]; exact hm p e) (by
    calc [m].length * 3 ^ c.progs.length ≤ 1 * 3 ^ 3 := Nat.mul_le_mul (by simp) (Nat.pow_le_pow_right (by decide) h4)
      _ ≤ 100 := by decide) (by simp; omega) (by simp; omega)
  unfold m__law_chain_step
  rw [show cplanD c = [.lst (c.progs.map fun p => .lst (planD p)), .lst (c.links.map .str)] from rfl] at e ⊢
  have er : oRg1 (.int ((c.progs.map fun p => D.lst (planD p)).length : Int)) = some ((List.range' 0 c.progs.length).map fun (i : Nat) => D.int (i : Int)) := by
    rw [List.length_map, oRg1_nat (by omega), List.range_eq_range']
  walk_at "mir"
  rw [er]
  rw [List.map_nil, List.map_nil] at e
  rw [show [m].map msgD = [msgD m] from rfl] at e
  walk_at "mir"
  rw [List.nil_append, List.nil_append] at e
  rw [e]
  rw [seqO_nx]
  generalize hX : c.stepC cs m = X
  have hX' : chainP c.progs c.links cs [m] = X := hX
  rw [hX']
  walk_at "mir"

end K09
namespace K09
open PySem PySem.Spec PyProof.Rows L2 DL
local macro_rules | `(tactic| walk_at "mir") => `(tactic| try simp (implicitDefEqProofs := false) only [runD, startE, endO, List.map_cons, List.map_nil, List.length_cons, List.length_nil, Nat.sub_self, Nat.reduceAdd, Nat.reduceSub, Nat.reduceMul, List.replicate, List.cons_append, List.nil_append, if_pos, R.bind_ok, R.of_some, R.map_ok, Option.bind_some, Option.map_some, withR_ok, seqO_nx, seqO_rt, List.set_cons_zero, List.set_cons_succ, List.getElem?_cons_zero, List.getElem?_cons_succ,
  eC, eOp, lOp, eCmp, bCmp, eNotInD, eUn, lUn, eIsi, eIsi2, eIf, eAnd, eOr, bAnd, bOr, bNot, bVal, eChain, bChain, pNone, pSome, lSl, eSlT, eSlR, aNil, aCons, eTup, lLst, eFz, eAttr, eCall, lCall, lLc, bYes, gsNil, gsCons, gT, iSeq, iR1, iR2, iZip2, iEnm, sNx, sSeq, sSet, sSetF, sSetFz, sAsg, sExpr, sRet, sRetF, sRetOwn, sRetN, sIf, sApp, sIns, sAug, sFor, sFrz, sFldM, sSetM, sPutD, eMelt, lMelt, eMake, eMakeD, sExt, eDc, eIxG, sRaise, eIsO, iZip3, lLcN, cNext,
  getD, getB, slotL, slotD, slotM, freeze, setD, rowOf_tup, rowOf_lst, Ret_v_val, Ret_v_frl, Ret_f_frl, oItems_lst, oItems_tup, oIx_lst, oIx_tup, oIx_scr, oLen_lst, oLen_tup, oLen_scr, cInt_int, oAdd_int, oSub_int, oInt_int, oTuple_lst, oTuple_tup, oList_lst, oList_tup, oBl_bl, oNot_bl, oSlL_lst, oSlL_scr, oSlT_tup, oSlR_tup, oSlR_lst, oI_int, oAttr_obj, at0, at1, at2, at3, at4, at5, oNeg_int, oRev_lst, Int.reduceNeg, oAug_int, oSlR_scr, cEq_int, oSeq_lst, oSeq_tup, lcItem, calm_ok, cElt, wipeE, if_true, if_false, Bool.false_eq_true, Bool.true_eq_false, Bool.not_true, Bool.not_false, reduceCtorEq, mkL_ok, oMod_int, oDiv_int, oMul_int, oPow_10_18, Int.reduceLT, Int.reduceLE, Int.reduceNeg, Int.reducePow, Nat.reduceLeDiff, Nat.reduceLT, and_self, true_or, or_true, and_true, true_and, Nat.zero_le, Int.zero_add])
local macro_rules | `(tactic| walk_at "mir*") => `(tactic| try simp (implicitDefEqProofs := false) only [runD, startE, endO, List.map_cons, List.map_nil, List.length_cons, List.length_nil, Nat.sub_self, Nat.reduceAdd, Nat.reduceSub, Nat.reduceMul, List.replicate, List.cons_append, List.nil_append, if_pos, R.bind_ok, R.of_some, R.map_ok, Option.bind_some, Option.map_some, withR_ok, seqO_nx, seqO_rt, List.set_cons_zero, List.set_cons_succ, List.getElem?_cons_zero, List.getElem?_cons_succ,
  eC, eOp, lOp, eCmp, bCmp, eNotInD, eUn, lUn, eIsi, eIsi2, eIf, eAnd, eOr, bAnd, bOr, bNot, bVal, eChain, bChain, pNone, pSome, lSl, eSlT, eSlR, aNil, aCons, eTup, lLst, eFz, eAttr, eCall, lCall, lLc, bYes, gsNil, gsCons, gT, iSeq, iR1, iR2, iZip2, iEnm, sNx, sSeq, sSet, sSetF, sSetFz, sAsg, sExpr, sRet, sRetF, sRetOwn, sRetN, sIf, sApp, sIns, sAug, sFor, sFrz, sFldM, sSetM, sPutD, eMelt, lMelt, eMake, eMakeD, sExt, eDc, eIxG, sRaise, eIsO, iZip3, lLcN, cNext,
  getD, getB, slotL, slotD, slotM, freeze, setD, rowOf_tup, rowOf_lst, Ret_v_val, Ret_v_frl, Ret_f_frl, oItems_lst, oItems_tup, oIx_lst, oIx_tup, oIx_scr, oLen_lst, oLen_tup, oLen_scr, cInt_int, oAdd_int, oSub_int, oInt_int, oTuple_lst, oTuple_tup, oList_lst, oList_tup, oBl_bl, oNot_bl, oSlL_lst, oSlL_scr, oSlT_tup, oSlR_tup, oSlR_lst, oI_int, oAttr_obj, at0, at1, at2, at3, at4, at5, oNeg_int, oRev_lst, Int.reduceNeg, oAug_int, oSlR_scr, cEq_int, oSeq_lst, oSeq_tup, lcItem, calm_ok, cElt, wipeE, if_true, if_false, Bool.false_eq_true, Bool.true_eq_false, Bool.not_true, Bool.not_false, reduceCtorEq, mkL_ok, oMod_int, oDiv_int, oMul_int, oPow_10_18, Int.reduceLT, Int.reduceLE, Int.reduceNeg, Int.reducePow, Nat.reduceLeDiff, Nat.reduceLT, and_self, true_or, or_true, and_true, true_and, Nat.zero_le, Int.zero_add, decide_true, decide_false, *])
theorem m_lawdeed {c : CPlan} (hc : ChainOk c) : ∀ {cs : List Plc} (hp : PlacesOk c cs) {ms : List Msg} (hm : ∀ p, c.progs.head? = some p → ∀ m ∈ ms, m.1 ∈ p.names) (hl : ms.length ≤ 1000) {d : D} (hd : IsRow d (ms.map msgD)),
    m__law_deed [.lst (cplanD c), .tup (cs.map placeD), d] = .ok (.frl [.lst ((c.deedC cs ms).map stepD), .tup ((c.endC cs ms).map placeD)]) := by
  intro cs hp ms hm hl d hd
  have loop : ∀ (ms : List Msg), (∀ p, c.progs.head? = some p → ∀ m ∈ ms, m.1 ∈ p.names) → ∀ (cs : List Plc) (acc : List (List Part)) (j4 j5 : Option S), PlacesOk c cs → acc.length + ms.length ≤ 10000 →
      ∃ j4' j5', forD (setD 4) b__law_deed_1 (ms.map msgD) [some (S.d (.lst (cplanD c))), some (S.d (.tup (cs.map placeD))), some (S.d d), some (S.ml (acc.map stepD)), j4, j5] =
        some (.nx [some (S.d (.lst (cplanD c))), some (S.d (.tup ((c.endC cs ms).map placeD))), some (S.d d), some (S.ml ((acc ++ c.deedC cs ms).map stepD)), j4', j5']) := by
    intro ms
    induction ms with
    | nil => intro _ cs acc j4 j5 _ _; exact ⟨j4, j5, by simp [forD, CPlan.deedC, CPlan.endC]⟩
    | cons m ms ih =>
      intro hm cs acc j4 j5 hp hl
      have hm0 : ∀ p, c.progs.head? = some p → m.1 ∈ p.names := fun p e => hm p e m List.mem_cons_self
      have es := m_lawcstep hc hp hm0
      obtain ⟨k1, k2, k3⟩ := stepC_ok hc hp hm0
      rw [List.length_cons] at hl
      have hal : (acc.map stepD).length < 16777216 := by rw [List.length_map]; omega
      obtain ⟨j4', j5', e⟩ := ih (fun p e y hy => hm p e y (List.mem_cons_of_mem _ hy)) _ (acc ++ [c.stepC cs m]) (some (S.d (msgD m))) (some (S.d (stepD (c.stepC cs m)))) k1 (by rw [List.length_append, List.length_cons, List.length_nil]; omega)
      refine ⟨j4', j5', ?_⟩
      rw [List.map_cons]
      unfold forD
      have eb : b__law_deed_1 [some (S.d (.lst (cplanD c))), some (S.d (.tup (cs.map placeD))), some (S.d d), some (S.ml (acc.map stepD)), some (S.d (msgD m)), j5] =
          some (.nx [some (S.d (.lst (cplanD c))), some (S.d (.tup ((plcsOf (c.stepC cs m)).map placeD))), some (S.d d), some (S.ml ((acc ++ [c.stepC cs m]).map stepD)), some (S.d (msgD m)), some (S.d (stepD (c.stepC cs m)))]) := by
        unfold b__law_deed_1
        walk_at "mir"
        rw [es]
        walk_at "mir"
        rw [if_pos hal]
        rw [List.map_append]
        walk_at "mir"
      have e1 : c.deedC cs (m :: ms) = c.stepC cs m :: c.deedC (plcsOf (c.stepC cs m)) ms := rfl
      have e2 : c.endC cs (m :: ms) = c.endC (plcsOf (c.stepC cs m)) ms := rfl
      rw [e1, e2]
      rw [List.append_assoc] at e
      generalize c.deedC (plcsOf (c.stepC cs m)) ms = X at e ⊢
      generalize c.endC (plcsOf (c.stepC cs m)) ms = Y at e ⊢
      generalize c.stepC cs m = Z at eb e ⊢
      simp (implicitDefEqProofs := false) only [setD, Option.bind_some, List.set_cons_zero, List.set_cons_succ, eb, afterO_nx]
      rw [e]
      rfl
  unfold m__law_deed
  walk_at "mir"
  rw [hd.items]
  walk_at "mir"
  obtain ⟨j4, j5, e⟩ := loop ms hm cs [] none none hp (by rw [List.length_nil]; omega)
  generalize c.deedC cs ms = X at e ⊢
  generalize c.endC cs ms = Y at e ⊢
  rw [List.nil_append, List.map_nil] at e
  rw [e]
  rw [seqO_nx]
  walk_at "mir"

end K09
namespace K09
open PySem PySem.Spec PyProof.Rows L2 DL
local macro_rules | `(tactic| walk_at "mir") => `(tactic| try simp (implicitDefEqProofs := false) only [runD, startE, endO, List.map_cons, List.map_nil, List.length_cons, List.length_nil, Nat.sub_self, Nat.reduceAdd, Nat.reduceSub, Nat.reduceMul, List.replicate, List.cons_append, List.nil_append, if_pos, R.bind_ok, R.of_some, R.map_ok, Option.bind_some, Option.map_some, withR_ok, seqO_nx, seqO_rt, List.set_cons_zero, List.set_cons_succ, List.getElem?_cons_zero, List.getElem?_cons_succ,
  eC, eOp, lOp, eCmp, bCmp, eNotInD, eUn, lUn, eIsi, eIsi2, eIf, eAnd, eOr, bAnd, bOr, bNot, bVal, eChain, bChain, pNone, pSome, lSl, eSlT, eSlR, aNil, aCons, eTup, lLst, eFz, eAttr, eCall, lCall, lLc, bYes, gsNil, gsCons, gT, iSeq, iR1, iR2, iZip2, iEnm, sNx, sSeq, sSet, sSetF, sSetFz, sAsg, sExpr, sRet, sRetF, sRetOwn, sRetN, sIf, sApp, sIns, sAug, sFor, sFrz, sFldM, sSetM, sPutD, eMelt, lMelt, eMake, eMakeD, sExt, eDc, eIxG, sRaise, eIsO, iZip3, lLcN, cNext,
  getD, getB, slotL, slotD, slotM, freeze, setD, rowOf_tup, rowOf_lst, Ret_v_val, Ret_v_frl, Ret_f_frl, oItems_lst, oItems_tup, oIx_lst, oIx_tup, oIx_scr, oLen_lst, oLen_tup, oLen_scr, cInt_int, oAdd_int, oSub_int, oInt_int, oTuple_lst, oTuple_tup, oList_lst, oList_tup, oBl_bl, oNot_bl, oSlL_lst, oSlL_scr, oSlT_tup, oSlR_tup, oSlR_lst, oI_int, oAttr_obj, at0, at1, at2, at3, at4, at5, oNeg_int, oRev_lst, Int.reduceNeg, oAug_int, oSlR_scr, cEq_int, oSeq_lst, oSeq_tup, lcItem, calm_ok, cElt, wipeE, if_true, if_false, Bool.false_eq_true, Bool.true_eq_false, Bool.not_true, Bool.not_false, reduceCtorEq, mkL_ok, oMod_int, oDiv_int, oMul_int, oPow_10_18, Int.reduceLT, Int.reduceLE, Int.reduceNeg, Int.reducePow, Nat.reduceLeDiff, Nat.reduceLT, and_self, true_or, or_true, and_true, true_and, Nat.zero_le, Int.zero_add])
local macro_rules | `(tactic| walk_at "mir*") => `(tactic| try simp (implicitDefEqProofs := false) only [runD, startE, endO, List.map_cons, List.map_nil, List.length_cons, List.length_nil, Nat.sub_self, Nat.reduceAdd, Nat.reduceSub, Nat.reduceMul, List.replicate, List.cons_append, List.nil_append, if_pos, R.bind_ok, R.of_some, R.map_ok, Option.bind_some, Option.map_some, withR_ok, seqO_nx, seqO_rt, List.set_cons_zero, List.set_cons_succ, List.getElem?_cons_zero, List.getElem?_cons_succ,
  eC, eOp, lOp, eCmp, bCmp, eNotInD, eUn, lUn, eIsi, eIsi2, eIf, eAnd, eOr, bAnd, bOr, bNot, bVal, eChain, bChain, pNone, pSome, lSl, eSlT, eSlR, aNil, aCons, eTup, lLst, eFz, eAttr, eCall, lCall, lLc, bYes, gsNil, gsCons, gT, iSeq, iR1, iR2, iZip2, iEnm, sNx, sSeq, sSet, sSetF, sSetFz, sAsg, sExpr, sRet, sRetF, sRetOwn, sRetN, sIf, sApp, sIns, sAug, sFor, sFrz, sFldM, sSetM, sPutD, eMelt, lMelt, eMake, eMakeD, sExt, eDc, eIxG, sRaise, eIsO, iZip3, lLcN, cNext,
  getD, getB, slotL, slotD, slotM, freeze, setD, rowOf_tup, rowOf_lst, Ret_v_val, Ret_v_frl, Ret_f_frl, oItems_lst, oItems_tup, oIx_lst, oIx_tup, oIx_scr, oLen_lst, oLen_tup, oLen_scr, cInt_int, oAdd_int, oSub_int, oInt_int, oTuple_lst, oTuple_tup, oList_lst, oList_tup, oBl_bl, oNot_bl, oSlL_lst, oSlL_scr, oSlT_tup, oSlR_tup, oSlR_lst, oI_int, oAttr_obj, at0, at1, at2, at3, at4, at5, oNeg_int, oRev_lst, Int.reduceNeg, oAug_int, oSlR_scr, cEq_int, oSeq_lst, oSeq_tup, lcItem, calm_ok, cElt, wipeE, if_true, if_false, Bool.false_eq_true, Bool.true_eq_false, Bool.not_true, Bool.not_false, reduceCtorEq, mkL_ok, oMod_int, oDiv_int, oMul_int, oPow_10_18, Int.reduceLT, Int.reduceLE, Int.reduceNeg, Int.reducePow, Nat.reduceLeDiff, Nat.reduceLT, and_self, true_or, or_true, and_true, true_and, Nat.zero_le, Int.zero_add, decide_true, decide_false, *])

/-! ### where the law begins -/
def startC (c : CPlan) : List Plc := c.progs.map fun _ => (0, [])
theorem start_ok {c : CPlan} (hc : ChainOk c) : PlacesOk c (startC c) := by
  have h := hc.ok
  unfold PlacesOk startC
  generalize c.progs = ps at h
  clear hc
  induction ps with
  | nil => exact .nil
  | cons p ps ih => exact .cons ⟨(h p List.mem_cons_self).sts.zero, List.Pairwise.nil⟩ (ih fun q hq => h q (List.mem_cons_of_mem _ hq))
theorem m_start {c : CPlan} (hc : ChainOk c) : m__law_start [.lst (cplanD c)] = .ok (.val (.tup ((startC c).map placeD))) := by
  have h4 := hc.le
  unfold m__law_start
  rw [show cplanD c = [.lst (c.progs.map fun p => .lst (planD p)), .lst (c.links.map .str)] from rfl]
  walk_at "mir"
  rw [lc_map (fun p : Prog => D.lst (planD p)) (f := fun _ => placeD (0, [])) (by omega) (fun x hx => by
    unfold e__law_start_1
    walk_at "mir"
    rfl)]
  walk_at "mir"
  unfold startC
  rw [List.map_map]
  rfl
theorem m_inputB {c : CPlan} {p : Prog} (hp : ProgOk p) (h : c.progs[0]? = some p) (cell : Int) (n : Nat) (hn : n ≤ 1000) : ∃ ms : List Msg, (∀ m ∈ ms, m.1 ∈ p.names ∧ -1000000000 < m.2 ∧ m.2 < 1000000000) ∧ ms.length = n ∧
    m__law_input [.lst (cplanD c), .int cell, .int (n : Int)] = .ok (.frl (ms.map msgD)) := by
  obtain ⟨row, hrow, er⟩ := m_row cell n hn
  have i0 : atI (c.progs.map fun p => D.lst (planD p)) 0 = some (.lst (planD p)) := at_map (k := 0) rfl h
  have a0 : atI (planD p) 0 = some (.tup (p.names.map .str)) := atI_ofNat _ 0
  have npos : 0 < p.names.length := hp.names.ne
  obtain ⟨⟨ms, j4, j5⟩, e, h1, h2⟩ := for_map (gt := setD 5) (g := b__law_input_1) D.int
    (fun (s : List Msg × Option S × Unit) => [some (S.d (.lst (cplanD c))), some (S.d (.int cell)), some (S.d (.int (n : Int))), some (S.ml (s.1.map msgD)), some (S.d (.tup (p.names.map .str))), s.2.1, none])
    (fun pre s => (∀ m ∈ s.1, m.1 ∈ p.names ∧ -2 ≤ m.2 ∧ m.2 ≤ 200) ∧ s.1.length = pre.length) row ([], none, ()) ⟨by simp, rfl⟩ (by
    intro pre x post s hx hP
    obtain ⟨ms, j4, j5⟩ := s
    obtain ⟨h1, h2⟩ := hP
    simp only at h1 h2
    have hlen : (ms.map msgD).length < 16777216 := by
      have := congrArg List.length hx
      have := hrow.1
      rw [List.length_append, List.length_cons] at *
      rw [List.length_map]; omega
    obtain ⟨w, hw, ew, _⟩ := at_mod (f := D.str) (xs := p.names) x npos
    obtain ⟨v, hv, ev⟩ : ∃ v : Int, (-2 ≤ v ∧ v ≤ 200) ∧ b__law_input_1 [some (S.d (.lst (cplanD c))), some (S.d (.int cell)), some (S.d (.int (n : Int))), some (S.ml (ms.map msgD)), some (S.d (.tup (p.names.map .str))), some (S.d (.int x)), none] =
        some (.nx [some (S.d (.lst (cplanD c))), some (S.d (.int cell)), some (S.d (.int (n : Int))), some (S.ml ((ms ++ [(w, v)]).map msgD)), some (S.d (.tup (p.names.map .str))), some (S.d (.int x)), none]) := by
      refine ⟨x / 4 % (if (cell % 5 == 1) = true then 200 else 6) - 2, by split <;> omega, ?_⟩
      unfold b__law_input_1
      walk_at "mir"
      rw [List.length_map, oMod_int (by omega)]
      walk_at "mir"
      rw [ew]
      walk_at "mir"
      cases (cell % 5 == 1) with
      | true =>
        rw [show oInt (.bl true) = some (.int 1) from rfl]
        walk_at "mir"
        try rw [show atI [D.int 6, D.int 200] 1 = some (D.int 200) from atI_ofNat _ 1]
        walk_at "mir"
        try rw [oMod_int (by decide)]
        walk_at "mir"
        rw [if_pos hlen, List.map_append]
        rfl
      | false =>
        rw [show oInt (.bl false) = some (.int 0) from rfl]
        walk_at "mir"
        try rw [show atI [D.int 6, D.int 200] 0 = some (D.int 6) from atI_ofNat _ 0]
        walk_at "mir"
        try rw [oMod_int (by decide)]
        walk_at "mir"
        rw [if_pos hlen, List.map_append]
        rfl
    refine ⟨_, (ms ++ [(w, v)], some (S.d (.int x)), ()), rfl, .inl ev, ?_, ?_⟩
    · intro m hm
      rcases List.mem_append.mp hm with hm | hm
      · exact h1 m hm
      · rw [List.mem_singleton.mp hm]; exact ⟨hw, hv⟩
    · rw [List.length_append, List.length_append, h2]; rfl)
  have hlen : ms.length = n := by rw [h2]; exact hrow.1
  by_cases hz : (cell % 3 == 0) = true
  · refine ⟨ms.map fun m => (m.1, m.2 * 1000003 + 17), ?_, by rw [List.length_map]; exact hlen, ?_⟩
    · intro m hm
      obtain ⟨m', hm', rfl⟩ := List.mem_map.mp hm
      obtain ⟨q1, q2, q3⟩ := h1 m' hm'
      exact ⟨q1, by show _ < m'.2 * 1000003 + 17; omega, by show m'.2 * 1000003 + 17 < _; omega⟩
    · unfold m__law_input
      rw [show cplanD c = [.lst (c.progs.map fun p => .lst (planD p)), .lst (c.links.map .str)] from rfl] at e ⊢
      walk_at "mir"
      rw [i0]
      walk_at "mir"
      rw [a0]
      walk_at "mir"
      rw [er]
      walk_at "mir"
      rw [List.map_nil] at e
      rw [e]
      walk_at "mir"
      try rw [oMod_int (by decide)]
      walk_at "mir"
      rw [hz]
      walk_at "mir"
      rw [lc_map msgD (f := fun m => msgD (m.1, m.2 * 1000003 + 17)) (by omega) (fun x hx => by
        unfold e__law_input_1
        walk_at "mir"
        try rw [oMul_int (.inr (by decide))]
        walk_at "mir"
        try rfl)]
      walk_at "mir"
      rw [List.map_map]
      rfl
  · refine ⟨ms, fun m hm => ⟨(h1 m hm).1, by have := (h1 m hm).2.1; omega, by have := (h1 m hm).2.2; omega⟩, hlen, ?_⟩
    unfold m__law_input
    rw [show cplanD c = [.lst (c.progs.map fun p => .lst (planD p)), .lst (c.links.map .str)] from rfl] at e ⊢
    walk_at "mir"
    rw [i0]
    walk_at "mir"
    rw [a0]
    walk_at "mir"
    rw [er]
    walk_at "mir"
    rw [List.map_nil] at e
    rw [e]
    walk_at "mir"
    try rw [oMod_int (by decide)]
    walk_at "mir"
    rw [eq_false_of_ne_true hz]
    walk_at "mir"

end K09
namespace K09
open PySem PySem.Spec PyProof.Rows L2 DL
local macro_rules | `(tactic| walk_at "mir") => `(tactic| try simp (implicitDefEqProofs := false) only [runD, startE, endO, List.map_cons, List.map_nil, List.length_cons, List.length_nil, Nat.sub_self, Nat.reduceAdd, Nat.reduceSub, Nat.reduceMul, List.replicate, List.cons_append, List.nil_append, if_pos, R.bind_ok, R.of_some, R.map_ok, Option.bind_some, Option.map_some, withR_ok, seqO_nx, seqO_rt, List.set_cons_zero, List.set_cons_succ, List.getElem?_cons_zero, List.getElem?_cons_succ,
  eC, eOp, lOp, eCmp, bCmp, eNotInD, eUn, lUn, eIsi, eIsi2, eIf, eAnd, eOr, bAnd, bOr, bNot, bVal, eChain, bChain, pNone, pSome, lSl, eSlT, eSlR, aNil, aCons, eTup, lLst, eFz, eAttr, eCall, lCall, lLc, bYes, gsNil, gsCons, gT, iSeq, iR1, iR2, iZip2, iEnm, sNx, sSeq, sSet, sSetF, sSetFz, sAsg, sExpr, sRet, sRetF, sRetOwn, sRetN, sIf, sApp, sIns, sAug, sFor, sFrz, sFldM, sSetM, sPutD, eMelt, lMelt, eMake, eMakeD, sExt, eDc, eIxG, sRaise, eIsO, iZip3, lLcN, cNext,
  getD, getB, slotL, slotD, slotM, freeze, setD, rowOf_tup, rowOf_lst, Ret_v_val, Ret_v_frl, Ret_f_frl, oItems_lst, oItems_tup, oIx_lst, oIx_tup, oIx_scr, oLen_lst, oLen_tup, oLen_scr, cInt_int, oAdd_int, oSub_int, oInt_int, oTuple_lst, oTuple_tup, oList_lst, oList_tup, oBl_bl, oNot_bl, oSlL_lst, oSlL_scr, oSlT_tup, oSlR_tup, oSlR_lst, oI_int, oAttr_obj, at0, at1, at2, at3, at4, at5, oNeg_int, oRev_lst, Int.reduceNeg, oAug_int, oSlR_scr, cEq_int, oSeq_lst, oSeq_tup, lcItem, calm_ok, cElt, wipeE, if_true, if_false, Bool.false_eq_true, Bool.true_eq_false, Bool.not_true, Bool.not_false, reduceCtorEq, mkL_ok, oMod_int, oDiv_int, oMul_int, oPow_10_18, Int.reduceLT, Int.reduceLE, Int.reduceNeg, Int.reducePow, Nat.reduceLeDiff, Nat.reduceLT, and_self, true_or, or_true, and_true, true_and, Nat.zero_le, Int.zero_add])
local macro_rules | `(tactic| walk_at "mir*") => `(tactic| try simp (implicitDefEqProofs := false) only [runD, startE, endO, List.map_cons, List.map_nil, List.length_cons, List.length_nil, Nat.sub_self, Nat.reduceAdd, Nat.reduceSub, Nat.reduceMul, List.replicate, List.cons_append, List.nil_append, if_pos, R.bind_ok, R.of_some, R.map_ok, Option.bind_some, Option.map_some, withR_ok, seqO_nx, seqO_rt, List.set_cons_zero, List.set_cons_succ, List.getElem?_cons_zero, List.getElem?_cons_succ,
  eC, eOp, lOp, eCmp, bCmp, eNotInD, eUn, lUn, eIsi, eIsi2, eIf, eAnd, eOr, bAnd, bOr, bNot, bVal, eChain, bChain, pNone, pSome, lSl, eSlT, eSlR, aNil, aCons, eTup, lLst, eFz, eAttr, eCall, lCall, lLc, bYes, gsNil, gsCons, gT, iSeq, iR1, iR2, iZip2, iEnm, sNx, sSeq, sSet, sSetF, sSetFz, sAsg, sExpr, sRet, sRetF, sRetOwn, sRetN, sIf, sApp, sIns, sAug, sFor, sFrz, sFldM, sSetM, sPutD, eMelt, lMelt, eMake, eMakeD, sExt, eDc, eIxG, sRaise, eIsO, iZip3, lLcN, cNext,
  getD, getB, slotL, slotD, slotM, freeze, setD, rowOf_tup, rowOf_lst, Ret_v_val, Ret_v_frl, Ret_f_frl, oItems_lst, oItems_tup, oIx_lst, oIx_tup, oIx_scr, oLen_lst, oLen_tup, oLen_scr, cInt_int, oAdd_int, oSub_int, oInt_int, oTuple_lst, oTuple_tup, oList_lst, oList_tup, oBl_bl, oNot_bl, oSlL_lst, oSlL_scr, oSlT_tup, oSlR_tup, oSlR_lst, oI_int, oAttr_obj, at0, at1, at2, at3, at4, at5, oNeg_int, oRev_lst, Int.reduceNeg, oAug_int, oSlR_scr, cEq_int, oSeq_lst, oSeq_tup, lcItem, calm_ok, cElt, wipeE, if_true, if_false, Bool.false_eq_true, Bool.true_eq_false, Bool.not_true, Bool.not_false, reduceCtorEq, mkL_ok, oMod_int, oDiv_int, oMul_int, oPow_10_18, Int.reduceLT, Int.reduceLE, Int.reduceNeg, Int.reducePow, Nat.reduceLeDiff, Nat.reduceLT, and_self, true_or, or_true, and_true, true_and, Nat.zero_le, Int.zero_add, decide_true, decide_false, *])

theorem all2_snoc {α β : Type} {R : α → β → Prop} {a : α} {b : β} : ∀ {as : List α} {bs : List β}, All2 R as bs → R a b → All2 R (as ++ [a]) (bs ++ [b])
  | _, _, .nil, h => .cons h .nil
  | _, _, .cons g t, h => .cons g (all2_snoc t h)
theorem m_beginningB {c : CPlan} (hc : ChainOk c) (cell : Int) : ∃ cs, PlacesOk c cs ∧ (∀ y ∈ cs, ∀ n ∈ y.2, -2 ≤ n ∧ n ≤ 100) ∧ m__law_beginning [.lst (cplanD c), .int cell] = .ok (.val (.tup (cs.map placeD))) := by
  obtain ⟨row, hrow, er⟩ := m_row cell 24 (by decide)
  have er : m__law_row [.int cell, .int 24] = .ok (.frl (row.map .int)) := er
  have h4 := hc.le
  have at_ : ∀ k : Nat, k < 24 → ∃ v, row[k]? = some v ∧ 0 ≤ v ∧ v < 840 := fun k hk => by
    have hk2 : k < row.length := by have := hrow.1; omega
    exact ⟨row[k], List.getElem?_eq_getElem hk2, hrow.2 _ (List.getElem_mem hk2)⟩
  obtain ⟨⟨cs, j4, j5, j6, j7, j8⟩, e, h1, hB, h2⟩ := for_map (gt := setD 4) (g := b__law_beginning_2) (fun (i : Nat) => D.int (i : Int))
    (fun (s : List Plc × Option S × Option S × Option S × Option S × Option S) => [some (S.d (.lst (cplanD c))), some (S.d (.int cell)), some (S.d (.lst (row.map .int))), some (S.ml (s.1.map placeD)), s.2.1, s.2.2.1, s.2.2.2.1, s.2.2.2.2.1, s.2.2.2.2.2])
    (fun pre s => All2 (fun p x => PlaceOk p.sts x) (c.progs.take pre.length) s.1 ∧ (∀ y ∈ s.1, ∀ n ∈ y.2, -2 ≤ n ∧ n ≤ 100) ∧ pre = List.range pre.length) (List.range c.progs.length) ([], none, none, none, none, none) ⟨.nil, by simp, rfl⟩ (by
    intro pre k post s hx hP
    obtain ⟨cs, j4, j5, j6, j7, j8⟩ := s
    obtain ⟨h1, hB, h2⟩ := hP
    simp only at h1 hB h2
    have hk : k = pre.length := by
      have := congrArg (fun l => l[pre.length]?) hx
      simp only [List.getElem?_append_right (Nat.le_refl _), Nat.sub_self, List.getElem?_cons_zero] at this
      rw [List.getElem?_eq_some_iff] at this
      obtain ⟨q, r⟩ := this
      rw [List.getElem_range] at r
      exact r.symm
    have kn : k < c.progs.length := by
      have : k ∈ List.range c.progs.length := by rw [hx]; simp
      simpa using this
    have kp := List.getElem?_eq_getElem kn
    generalize c.progs[k] = p at kp
    have pk := hc.ok p (List.mem_of_getElem? kp)
    have a2 : atI (planD p) 2 = some (.tup (p.sts.map dN)) := atI_ofNat _ 2
    obtain ⟨v, ev, _, _⟩ := at_ (8 * k) (by omega)
    obtain ⟨st0, hst, est, st, eqs, hgs⟩ := at_mod (f := dN) (xs := p.sts) v (by
      have := pk.sts.zero
      rw [List.getElem?_eq_some_iff] at this
      exact this.1)
    have s4 := pk.sts.four st0 hst
    have csl : cs.length = k := by
      rw [← h1.len, List.length_take, hk]
      omega
    -- what is kept
    obtain ⟨⟨ks, i8⟩, e8, g1, g2, g3, g4⟩ := for_map (gt := setD 8) (g := b__law_beginning_1) (fun (i : Nat) => D.int (i : Int))
      (fun (s : List Int × Option S) => [some (S.d (.lst (cplanD c))), some (S.d (.int cell)), some (S.d (.lst (row.map .int))), some (S.ml (cs.map placeD)), some (S.d (.int (k : Int))), some (S.d (.tup (p.sts.map dN))), some (S.d (dN st)), some (S.ml (s.1.map .int)), s.2])
      (fun pre s => s.1.length = pre.length ∧ s.1.Pairwise (· < ·) ∧ (∀ x ∈ s.1, x ≤ 7 * (pre.length : Int) - 5) ∧ ∀ x ∈ s.1, -2 ≤ x) (List.range st0) ([], j8) ⟨rfl, .nil, by simp, by simp⟩ (by
      intro pre2 a post2 s hx2 hP
      obtain ⟨ks, i8⟩ := s
      obtain ⟨g1, g2, g3, g4⟩ := hP
      simp only at g1 g2 g3 g4
      have ha : a = pre2.length := by
        have := congrArg (fun l => l[pre2.length]?) hx2
        simp only [List.getElem?_append_right (Nat.le_refl _), Nat.sub_self, List.getElem?_cons_zero] at this
        rw [List.getElem?_eq_some_iff] at this
        obtain ⟨q, r⟩ := this
        rw [List.getElem_range] at r
        exact r.symm
      have an : a < st0 := by
        have : a ∈ List.range st0 := by rw [hx2]; simp
        simpa using this
      obtain ⟨w, ew, _, _⟩ := at_ (8 * k + 1 + a) (by omega)
      have hlen : (ks.map D.int).length < 16777216 := by rw [List.length_map]; omega
      refine ⟨_, (ks ++ [w % 5 - 2 + 7 * (a : Int)], some (S.d (.int (a : Int)))), rfl, .inl ?_, ?_, ?_, ?_, ?_⟩
      · unfold b__law_beginning_1
        walk_at "mir"
        try rw [oMul_int (.inl (by decide))]
        walk_at "mir"
        rw [at_map (i := 8 * (k : Int) + 1 + (a : Int)) (k := 8 * k + 1 + a) (by omega) ew]
        walk_at "mir"
        try rw [oMod_int (by decide)]
        walk_at "mir"
        try rw [oMul_int (.inl (by decide))]
        walk_at "mir"
        rw [if_pos hlen, List.map_append]
        rfl
      · rw [List.length_append, List.length_append, g1]; rfl
      · rw [List.pairwise_append]
        refine ⟨g2, List.pairwise_singleton _ _, fun x hx y hy => ?_⟩
        rw [List.mem_singleton.mp hy]
        have := g3 x hx
        have : 0 ≤ w % 5 := Int.emod_nonneg _ (by decide)
        omega
      · intro x hx
        rw [List.length_append, List.length_singleton]
        rcases List.mem_append.mp hx with hx | hx
        · have := g3 x hx; omega
        · rw [List.mem_singleton.mp hx]
          have : w % 5 < 5 := Int.emod_lt_of_pos _ (by decide)
          omega
      · intro x hx
        rcases List.mem_append.mp hx with hx | hx
        · exact g4 x hx
        · rw [List.mem_singleton.mp hx]
          have : 0 ≤ w % 5 := Int.emod_nonneg _ (by decide)
          omega)
    rw [List.length_range] at g1 g3
    have hlen : (cs.map placeD).length < 16777216 := by rw [List.length_map]; omega
    refine ⟨_, (cs ++ [(st, ks)], some (S.d (.int (k : Int))), some (S.d (.tup (p.sts.map dN))), some (S.d (dN st)), some (S.ml (ks.map .int)), i8), rfl, .inl ?_, ?_, ?_, ?_⟩
    · unfold b__law_beginning_2
      rw [show cplanD c = [.lst (c.progs.map fun p => .lst (planD p)), .lst (c.links.map .str)] from rfl] at e8 ⊢
      walk_at "mir"
      rw [at_map (i := (k : Int)) rfl kp]
      walk_at "mir"
      rw [a2]
      walk_at "mir"
      try rw [oMul_int (.inl (by decide))]
      walk_at "mir"
      rw [at_map (i := 8 * (k : Int)) (k := 8 * k) (by omega) ev]
      walk_at "mir"
      rw [List.length_map, oMod_int (by have := pk.sts.zero; rw [List.getElem?_eq_some_iff] at this; have := this.1; omega)]
      walk_at "mir"
      rw [est]
      walk_at "mir"
      rw [oRg1_nat (by omega)]
      walk_at "mir"
      rw [List.map_nil] at e8
      rw [eqs, e8]
      walk_at "mir"
      rw [if_pos hlen, List.map_append]
      rfl
    · rw [List.length_append, List.length_singleton]
      rw [List.take_succ, ← hk, kp]
      rw [← hk] at h1
      exact all2_snoc h1 ⟨by rw [hgs, g1], g2⟩
    · intro y hy n hn
      rcases List.mem_append.mp hy with hy | hy
      · exact hB y hy n hn
      · rw [List.mem_singleton.mp hy] at hn
        have := g3 n hn
        have := g4 n hn
        omega
    · rw [List.length_append, List.length_singleton, List.range_succ, ← h2, hk])
  refine ⟨cs, ?_, hB, ?_⟩
  · rw [List.length_range, List.take_length] at h1
    exact h1
  · unfold m__law_beginning
    rw [show cplanD c = [.lst (c.progs.map fun p => .lst (planD p)), .lst (c.links.map .str)] from rfl] at e ⊢
    walk_at "mir"
    rw [er]
    walk_at "mir"
    rw [List.length_map, oRg1_nat (by omega)]
    walk_at "mir"
    rw [List.map_nil] at e
    rw [e]
    walk_at "mir"

end K09
namespace K09
open PySem PySem.Spec PyProof.Rows L2 DL
local macro_rules | `(tactic| walk_at "mir") => `(tactic| try simp (implicitDefEqProofs := false) only [runD, startE, endO, List.map_cons, List.map_nil, List.length_cons, List.length_nil, Nat.sub_self, Nat.reduceAdd, Nat.reduceSub, Nat.reduceMul, List.replicate, List.cons_append, List.nil_append, if_pos, R.bind_ok, R.of_some, R.map_ok, Option.bind_some, Option.map_some, withR_ok, seqO_nx, seqO_rt, List.set_cons_zero, List.set_cons_succ, List.getElem?_cons_zero, List.getElem?_cons_succ,
  eC, eOp, lOp, eCmp, bCmp, eNotInD, eUn, lUn, eIsi, eIsi2, eIf, eAnd, eOr, bAnd, bOr, bNot, bVal, eChain, bChain, pNone, pSome, lSl, eSlT, eSlR, aNil, aCons, eTup, lLst, eFz, eAttr, eCall, lCall, lLc, bYes, gsNil, gsCons, gT, iSeq, iR1, iR2, iZip2, iEnm, sNx, sSeq, sSet, sSetF, sSetFz, sAsg, sExpr, sRet, sRetF, sRetOwn, sRetN, sIf, sApp, sIns, sAug, sFor, sFrz, sFldM, sSetM, sPutD, eMelt, lMelt, eMake, eMakeD, sExt, eDc, eIxG, sRaise, eIsO, iZip3, lLcN, cNext,
  getD, getB, slotL, slotD, slotM, freeze, setD, rowOf_tup, rowOf_lst, Ret_v_val, Ret_v_frl, Ret_f_frl, oItems_lst, oItems_tup, oIx_lst, oIx_tup, oIx_scr, oLen_lst, oLen_tup, oLen_scr, cInt_int, oAdd_int, oSub_int, oInt_int, oTuple_lst, oTuple_tup, oList_lst, oList_tup, oBl_bl, oNot_bl, oSlL_lst, oSlL_scr, oSlT_tup, oSlR_tup, oSlR_lst, oI_int, oAttr_obj, at0, at1, at2, at3, at4, at5, oNeg_int, oRev_lst, Int.reduceNeg, oAug_int, oSlR_scr, cEq_int, oSeq_lst, oSeq_tup, lcItem, calm_ok, cElt, wipeE, if_true, if_false, Bool.false_eq_true, Bool.true_eq_false, Bool.not_true, Bool.not_false, reduceCtorEq, mkL_ok, oMod_int, oDiv_int, oMul_int, oPow_10_18, Int.reduceLT, Int.reduceLE, Int.reduceNeg, Int.reducePow, Nat.reduceLeDiff, Nat.reduceLT, and_self, true_or, or_true, and_true, true_and, Nat.zero_le, Int.zero_add])
local macro_rules | `(tactic| walk_at "mir*") => `(tactic| try simp (implicitDefEqProofs := false) only [runD, startE, endO, List.map_cons, List.map_nil, List.length_cons, List.length_nil, Nat.sub_self, Nat.reduceAdd, Nat.reduceSub, Nat.reduceMul, List.replicate, List.cons_append, List.nil_append, if_pos, R.bind_ok, R.of_some, R.map_ok, Option.bind_some, Option.map_some, withR_ok, seqO_nx, seqO_rt, List.set_cons_zero, List.set_cons_succ, List.getElem?_cons_zero, List.getElem?_cons_succ,
  eC, eOp, lOp, eCmp, bCmp, eNotInD, eUn, lUn, eIsi, eIsi2, eIf, eAnd, eOr, bAnd, bOr, bNot, bVal, eChain, bChain, pNone, pSome, lSl, eSlT, eSlR, aNil, aCons, eTup, lLst, eFz, eAttr, eCall, lCall, lLc, bYes, gsNil, gsCons, gT, iSeq, iR1, iR2, iZip2, iEnm, sNx, sSeq, sSet, sSetF, sSetFz, sAsg, sExpr, sRet, sRetF, sRetOwn, sRetN, sIf, sApp, sIns, sAug, sFor, sFrz, sFldM, sSetM, sPutD, eMelt, lMelt, eMake, eMakeD, sExt, eDc, eIxG, sRaise, eIsO, iZip3, lLcN, cNext,
  getD, getB, slotL, slotD, slotM, freeze, setD, rowOf_tup, rowOf_lst, Ret_v_val, Ret_v_frl, Ret_f_frl, oItems_lst, oItems_tup, oIx_lst, oIx_tup, oIx_scr, oLen_lst, oLen_tup, oLen_scr, cInt_int, oAdd_int, oSub_int, oInt_int, oTuple_lst, oTuple_tup, oList_lst, oList_tup, oBl_bl, oNot_bl, oSlL_lst, oSlL_scr, oSlT_tup, oSlR_tup, oSlR_lst, oI_int, oAttr_obj, at0, at1, at2, at3, at4, at5, oNeg_int, oRev_lst, Int.reduceNeg, oAug_int, oSlR_scr, cEq_int, oSeq_lst, oSeq_tup, lcItem, calm_ok, cElt, wipeE, if_true, if_false, Bool.false_eq_true, Bool.true_eq_false, Bool.not_true, Bool.not_false, reduceCtorEq, mkL_ok, oMod_int, oDiv_int, oMul_int, oPow_10_18, Int.reduceLT, Int.reduceLE, Int.reduceNeg, Int.reducePow, Nat.reduceLeDiff, Nat.reduceLT, and_self, true_or, or_true, and_true, true_and, Nat.zero_le, Int.zero_add, decide_true, decide_false, *])

structure GrowOk (ps : List Prog) (ls : List Str) : Prop where
  len : ls.length + 1 = ps.length
  ok : ∀ p ∈ ps, ProgOk p
  link : ∀ k p q l, ps[k]? = some p → ps[k + 1]? = some q → ls[k]? = some l → ∃ ch ∈ p.chs, ch.1 = l ∧ ch.2 = q.names
theorem grow {ps : List Prog} {ls : List Str} (h : GrowOk ps ls) {p q : Prog} (hp : ps.getLast? = some p) {ch : Str × List Str} (hc : ch ∈ p.chs) (hq : ProgOk q) (hn : q.names = ch.2) : GrowOk (ps ++ [q]) (ls ++ [ch.1]) := by
  have hl := h.len
  refine ⟨by rw [List.length_append, List.length_append, List.length_singleton, List.length_singleton, h.len], ?_, ?_⟩
  · intro x hx
    rcases List.mem_append.mp hx with hx | hx
    · exact h.ok x hx
    · rw [List.mem_singleton.mp hx]; exact hq
  · intro k a b l ha hb hll
    have hk : k < (ls ++ [ch.1]).length := (List.getElem?_eq_some_iff.mp hll).1
    rw [List.length_append, List.length_singleton] at hk
    by_cases hk2 : k < ls.length
    · rw [List.getElem?_append_left (by omega)] at ha hb hll
      exact h.link k a b l ha hb hll
    · have hk3 : k = ls.length := by omega
      rw [List.getElem?_append_left (by omega)] at ha
      rw [List.getElem?_append_right (by omega), show k + 1 - ps.length = 0 by omega] at hb
      rw [List.getElem?_append_right (by omega), show k - ls.length = 0 by omega] at hll
      cases hb; cases hll
      rw [List.getLast?_eq_getElem?, show ps.length - 1 = k by omega, ha] at hp
      cases hp
      exact ⟨ch, hc, rfl, hn.symm⟩
theorem m_plan (ns : List Int) : ∃ c, ChainOk c ∧ m__law_chain_plan [.scr ns] = .ok (.frl (cplanD c)) := by
  obtain ⟨row, hrow, er⟩ := m_row (cellI ns 0) 8 (by decide)
  have er : m__law_row [.int (cellI ns 0), .int 8] = .ok (.frl (row.map .int)) := er
  have c0 : m__law_cell [.scr ns, .int 0] = _ := m_cell ns 0
  have c1 : m__law_cell [.scr ns, .int 1] = _ := m_cell ns 1
  have c2 : m__law_cell [.scr ns, .int 2] = _ := m_cell ns 2
  have hr4 : RowOk 4 (row.take 4) := ⟨by rw [List.length_take, hrow.1]; rfl, fun x hx => hrow.2 x (List.mem_of_mem_take hx)⟩
  obtain ⟨ws, hws, ew⟩ := m_words _ hr4
  obtain ⟨p0, hp0, hn0, e0⟩ := m_program (cellI ns 1) ws hws
  have at_ : ∀ k : Nat, k < 8 → ∃ v, row[k]? = some v ∧ 0 ≤ v ∧ v < 840 := fun k hk => by
    have hk2 : k < row.length := by have := hrow.1; omega
    exact ⟨row[k], List.getElem?_eq_getElem hk2, hrow.2 _ (List.getElem_mem hk2)⟩
  obtain ⟨r4, e4, _, _⟩ := at_ 4 (by decide)
  have m0 : 0 ≤ r4 % 3 := Int.emod_nonneg _ (by decide)
  have m1 : r4 % 3 < 3 := Int.emod_lt_of_pos _ (by decide)
  obtain ⟨n, en⟩ : ∃ n : Nat, r4 % 3 = (n : Int) := ⟨_, (Int.toNat_of_nonneg m0).symm⟩
  have hn : n ≤ 2 := by omega
  have i4 : atI (row.map D.int) 4 = some (.int r4) := at_map (k := 4) rfl e4
  obtain ⟨⟨ps, ls, j4, j5⟩, e, h1, h2⟩ := for_map (gt := setD 4) (g := b__law_chain_plan_1) (fun (i : Nat) => D.int (i : Int))
    (fun (s : List Prog × List Str × Option S × Option S) => [some (S.d (.scr ns)), some (S.d (.lst (row.map .int))), some (S.ml (s.1.map fun p => .lst (planD p))), some (S.ml (s.2.1.map .str)), s.2.2.1, s.2.2.2])
    (fun pre s => GrowOk s.1 s.2.1 ∧ s.1.length = pre.length + 1) (List.range n) ([p0], [], none, none) ⟨⟨rfl, fun p hp => by rw [List.mem_singleton.mp hp]; exact hp0, fun k p q l _ _ h => by simp at h⟩, rfl⟩ (by
    intro pre k post s hx hP
    obtain ⟨ps, ls, j4, j5⟩ := s
    obtain ⟨h1, h2⟩ := hP
    simp only at h1 h2
    have kn : k < n := by
      have : k ∈ List.range n := by rw [hx]; simp
      simpa using this
    have pn : pre.length < n := by
      have := congrArg List.length hx
      rw [List.length_range, List.length_append, List.length_cons] at this
      omega
    have lenl := h1.len
    obtain ⟨p, hp⟩ : ∃ p, ps.getLast? = some p := by
      rw [List.getLast?_eq_getElem?]
      exact ⟨_, List.getElem?_eq_getElem (by omega)⟩
    have pk := h1.ok p (List.mem_of_getLast? hp)
    have il : atI (ps.map fun p => D.lst (planD p)) (-1) = some (.lst (planD p)) := by
      rw [atI_back, List.getLast?_map, hp]; rfl
    have a1 : atI (planD p) 1 = some (.tup (p.chs.map chD)) := atI_ofNat _ 1
    obtain ⟨v, ev, _, _⟩ := at_ (5 + k) (by omega)
    have chpos : 0 < p.chs.length := by have := pk.chs.names.ne; rw [List.length_map] at this; exact this
    obtain ⟨ch, hch, ech, _⟩ := at_mod (f := chD) (xs := p.chs) v chpos
    obtain ⟨q, hq, hqn, eq⟩ := m_program (cellI ns 2 / (1 + (k : Int)) + 3 * (k : Int)) ch.2 (pk.chs.signals ch hch)
    have hl1 : (ps.map fun p => D.lst (planD p)).length < 16777216 := by rw [List.length_map]; omega
    have hl2 : (ls.map D.str).length < 16777216 := by rw [List.length_map]; omega
    have b0 : atI [D.str ch.1, D.tup (ch.2.map .str)] 0 = some (.str ch.1) := atI_ofNat _ 0
    have b1 : atI [D.str ch.1, D.tup (ch.2.map .str)] 1 = some (.tup (ch.2.map .str)) := atI_ofNat _ 1
    have ech : atI (p.chs.map chD) (v % (p.chs.length : Int)) = some (.tup [D.str ch.1, D.tup (ch.2.map .str)]) := ech
    refine ⟨_, (ps ++ [q], ls ++ [ch.1], some (S.d (.int (k : Int))), some (S.d (chD ch))), rfl, .inl ?_, grow h1 hp hch hq hqn, ?_⟩
    · unfold b__law_chain_plan_1
      walk_at "mir"
      rw [il]
      walk_at "mir"
      rw [a1]
      walk_at "mir"
      rw [at_map (i := 5 + (k : Int)) (k := 5 + k) (by omega) ev]
      walk_at "mir"
      try rw [il]
      walk_at "mir"
      try rw [a1]
      walk_at "mir"
      try rw [List.length_map]
      try rw [oMod_int (by omega)]
      walk_at "mir"
      rw [ech]
      walk_at "mir"
      rw [if_pos hl2]
      walk_at "mir"
      rw [c2]
      walk_at "mir"
      rw [oDiv_int (by omega)]
      walk_at "mir"
      rw [eq]
      walk_at "mir"
      rw [if_pos hl1, List.map_append, List.map_append]
      rfl
    · rw [List.length_append, List.length_append, h2]; rfl)
  rw [List.length_range] at h2
  have h2 : ps.length = n + 1 := h2
  refine ⟨⟨ps, ls⟩, ⟨by show 1 ≤ ps.length; omega, by show ps.length ≤ 3; omega, h1.ok, h1.len, h1.link⟩, ?_⟩
  unfold m__law_chain_plan
  walk_at "mir"
  rw [c0]
  walk_at "mir"
  rw [er]
  walk_at "mir"
  rw [c1]
  walk_at "mir"
  rw [show cut (row.map D.int) none (some 4) = (row.take 4).map D.int by rw [show (4 : Int) = ((4 : Nat) : Int) from rfl, cut_to, List.map_take]]
  walk_at "mir"
  rw [ew]
  walk_at "mir"
  rw [e0]
  walk_at "mir"
  rw [i4]
  walk_at "mir"
  rw [en, oRg1_nat (by omega)]
  walk_at "mir"
  rw [List.map_nil, show [p0].map (fun p => D.lst (planD p)) = [.lst (planD p0)] from rfl] at e
  rw [e]
  walk_at "mir"
  rfl

end K09
namespace K09
open PySem PySem.Spec PyProof.Rows L2 DL
local macro_rules | `(tactic| walk_at "mir") => `(tactic| try simp (implicitDefEqProofs := false) only [runD, startE, endO, List.map_cons, List.map_nil, List.length_cons, List.length_nil, Nat.sub_self, Nat.reduceAdd, Nat.reduceSub, Nat.reduceMul, List.replicate, List.cons_append, List.nil_append, if_pos, R.bind_ok, R.of_some, R.map_ok, Option.bind_some, Option.map_some, withR_ok, seqO_nx, seqO_rt, List.set_cons_zero, List.set_cons_succ, List.getElem?_cons_zero, List.getElem?_cons_succ,
  eC, eOp, lOp, eCmp, bCmp, eNotInD, eUn, lUn, eIsi, eIsi2, eIf, eAnd, eOr, bAnd, bOr, bNot, bVal, eChain, bChain, pNone, pSome, lSl, eSlT, eSlR, aNil, aCons, eTup, lLst, eFz, eAttr, eCall, lCall, lLc, bYes, gsNil, gsCons, gT, iSeq, iR1, iR2, iZip2, iEnm, sNx, sSeq, sSet, sSetF, sSetFz, sAsg, sExpr, sRet, sRetF, sRetOwn, sRetN, sIf, sApp, sIns, sAug, sFor, sFrz, sFldM, sSetM, sPutD, eMelt, lMelt, eMake, eMakeD, sExt, eDc, eIxG, sRaise, eIsO, iZip3, lLcN, cNext,
  getD, getB, slotL, slotD, slotM, freeze, setD, rowOf_tup, rowOf_lst, Ret_v_val, Ret_v_frl, Ret_f_frl, oItems_lst, oItems_tup, oIx_lst, oIx_tup, oIx_scr, oLen_lst, oLen_tup, oLen_scr, cInt_int, oAdd_int, oSub_int, oInt_int, oTuple_lst, oTuple_tup, oList_lst, oList_tup, oBl_bl, oNot_bl, oSlL_lst, oSlL_scr, oSlT_tup, oSlR_tup, oSlR_lst, oI_int, oAttr_obj, at0, at1, at2, at3, at4, at5, oNeg_int, oRev_lst, Int.reduceNeg, oAug_int, oSlR_scr, cEq_int, oSeq_lst, oSeq_tup, lcItem, calm_ok, cElt, wipeE, if_true, if_false, Bool.false_eq_true, Bool.true_eq_false, Bool.not_true, Bool.not_false, reduceCtorEq, mkL_ok, oMod_int, oDiv_int, oMul_int, oPow_10_18, Int.reduceLT, Int.reduceLE, Int.reduceNeg, Int.reducePow, Nat.reduceLeDiff, Nat.reduceLT, and_self, true_or, or_true, and_true, true_and, Nat.zero_le, Int.zero_add])
local macro_rules | `(tactic| walk_at "mir*") => `(tactic| try simp (implicitDefEqProofs := false) only [runD, startE, endO, List.map_cons, List.map_nil, List.length_cons, List.length_nil, Nat.sub_self, Nat.reduceAdd, Nat.reduceSub, Nat.reduceMul, List.replicate, List.cons_append, List.nil_append, if_pos, R.bind_ok, R.of_some, R.map_ok, Option.bind_some, Option.map_some, withR_ok, seqO_nx, seqO_rt, List.set_cons_zero, List.set_cons_succ, List.getElem?_cons_zero, List.getElem?_cons_succ,
  eC, eOp, lOp, eCmp, bCmp, eNotInD, eUn, lUn, eIsi, eIsi2, eIf, eAnd, eOr, bAnd, bOr, bNot, bVal, eChain, bChain, pNone, pSome, lSl, eSlT, eSlR, aNil, aCons, eTup, lLst, eFz, eAttr, eCall, lCall, lLc, bYes, gsNil, gsCons, gT, iSeq, iR1, iR2, iZip2, iEnm, sNx, sSeq, sSet, sSetF, sSetFz, sAsg, sExpr, sRet, sRetF, sRetOwn, sRetN, sIf, sApp, sIns, sAug, sFor, sFrz, sFldM, sSetM, sPutD, eMelt, lMelt, eMake, eMakeD, sExt, eDc, eIxG, sRaise, eIsO, iZip3, lLcN, cNext,
  getD, getB, slotL, slotD, slotM, freeze, setD, rowOf_tup, rowOf_lst, Ret_v_val, Ret_v_frl, Ret_f_frl, oItems_lst, oItems_tup, oIx_lst, oIx_tup, oIx_scr, oLen_lst, oLen_tup, oLen_scr, cInt_int, oAdd_int, oSub_int, oInt_int, oTuple_lst, oTuple_tup, oList_lst, oList_tup, oBl_bl, oNot_bl, oSlL_lst, oSlL_scr, oSlT_tup, oSlR_tup, oSlR_lst, oI_int, oAttr_obj, at0, at1, at2, at3, at4, at5, oNeg_int, oRev_lst, Int.reduceNeg, oAug_int, oSlR_scr, cEq_int, oSeq_lst, oSeq_tup, lcItem, calm_ok, cElt, wipeE, if_true, if_false, Bool.false_eq_true, Bool.true_eq_false, Bool.not_true, Bool.not_false, reduceCtorEq, mkL_ok, oMod_int, oDiv_int, oMul_int, oPow_10_18, Int.reduceLT, Int.reduceLE, Int.reduceNeg, Int.reducePow, Nat.reduceLeDiff, Nat.reduceLT, and_self, true_or, or_true, and_true, true_and, Nat.zero_le, Int.zero_add, decide_true, decide_false, *])

/-! ### a chain is made -/
theorem eqd_strs {ws : List Str} (h : ∀ w ∈ ws, PyData.strOk w = true) (n : Nat) : EqD (n + 1) (.tup (ws.map .str)) := .tup fun d hd => by
  obtain ⟨w, hw, rfl⟩ := List.mem_map.mp hd
  exact .str _ (h w hw)
theorem chain_loop (s0 s1 s2 : Option S) : ∀ (ps : List Prog) (ls : List Str), (∀ p ∈ ps, ProgOk p) → (∀ k p q l, ps[k]? = some p → ps[k + 1]? = some q → ls[k]? = some l → ∃ ch ∈ p.chs, ch.1 = l ∧ ch.2 = q.names) → ∀ j3 j4 j5, ∃ j3' j4' j5',
    forD (gT 3 (gsCons (setD 3) (gsCons (setD 4) (gsCons (setD 5) gsNil)))) b_Chain_1 (zip3 (ps.map revD) (ls.map .str) ((ps.map revD).drop 1)) [s0, s1, s2, j3, j4, j5, none] = some (.nx [s0, s1, s2, j3', j4', j5', none]) := by
  intro ps
  induction ps with
  | nil => intro ls _ _ j3 j4 j5; exact ⟨j3, j4, j5, rfl⟩
  | cons p ps ih =>
    intro ls h1 h2 j3 j4 j5
    cases ls with
    | nil => exact ⟨j3, j4, j5, rfl⟩
    | cons l ls =>
      cases ps with
      | nil => exact ⟨j3, j4, j5, rfl⟩
      | cons q ps =>
        obtain ⟨ch, hch, el, en⟩ := h2 0 p q l rfl rfl rfl
        obtain ⟨j3', j4', j5', e⟩ := ih ls (fun x hx => h1 x (List.mem_cons_of_mem _ hx)) (fun k a b z ha hb hz => h2 (k + 1) a b z ha hb hz) (some (S.d (revD p))) (some (S.d (.str l))) (some (S.d (revD q)))
        refine ⟨j3', j4', j5', ?_⟩
        have pk := h1 p List.mem_cons_self
        have qk := h1 q (List.mem_cons_of_mem _ List.mem_cons_self)
        have ns : ∀ w ∈ q.names, PyData.strOk w = true := fun w hw => (qk.names.word w hw).1.ok
        have es : m_signals_of [revD p, .str l] = .ok (.val (.tup (q.names.map .str))) := by
          rw [← el, ← en]
          exact m_signalsof (fieldsP p _) pk.chs hch
        have eb : b_Chain_1 [s0, s1, s2, some (S.d (revD p)), some (S.d (.str l)), some (S.d (revD q)), none] = some (.nx [s0, s1, s2, some (S.d (revD p)), some (S.d (.str l)), some (S.d (revD q)), none]) := by
          unfold b_Chain_1
          walk_at "mir"
          rw [es]
          walk_at "mir"
          rw [show revD q = .obj "Program" (progFields q q.rules.reverse) from rfl]
          walk_at "mir"
          rw [namesP]
          walk_at "mir"
          rw [cNe_self (eqd_strs ns 63)]
          walk_at "mir"
        have ez : zip3 ((p :: q :: ps).map revD) ((l :: ls).map .str) (((p :: q :: ps).map revD).drop 1) = .tup [revD p, .str l, revD q] :: zip3 ((q :: ps).map revD) (ls.map .str) (((q :: ps).map revD).drop 1) := rfl
        rw [ez]
        unfold forD
        have eg : gT 3 (gsCons (setD 3) (gsCons (setD 4) (gsCons (setD 5) gsNil))) (.tup [revD p, .str l, revD q]) [s0, s1, s2, j3, j4, j5, none] = some [s0, s1, s2, some (S.d (revD p)), some (S.d (.str l)), some (S.d (revD q)), none] := by
          walk_at "mir"
        rw [eg, Option.bind_some, eb, Option.bind_some, afterO_nx]
        exact e
theorem m_chain {c : CPlan} (hc : ChainOk c) : m_Chain [.lst (c.progs.map revD), .lst (c.links.map .str)] = .ok (chainFields c) := by
  have h1 := hc.ne
  have h3 := hc.le
  have hl := hc.len
  refine runI_eq fun a => ?_
  unfold coreI
  have a1 : (Str.ofString "programs") ∈ all_Chain := by decide +kernel
  have a2 : (Str.ofString "links") ∈ all_Chain := by decide +kernel
  rw [if_pos (show [D.lst (c.progs.map revD), D.lst (c.links.map .str)].length = 2 from rfl)]
  simp (implicitDefEqProofs := false) only [startI, List.map_cons, List.map_nil, List.length_cons, List.length_nil, Nat.reduceAdd, Nat.reduceSub, List.replicate, List.cons_append, List.nil_append]
  walk_at "mir"
  rw [m_isrowof (d := .lst (c.progs.map revD)) (.inl rfl) (a := 1) (b := 3) (by rw [List.length_map]; omega) (by rw [List.length_map]; omega)]
  walk_at "mir"
  rw [lc_map revD (f := fun _ => D.bl true) (by omega) (fun x hx => by
    unfold e_Chain_1
    rw [show revD x = .obj "Program" (progFields x x.rules.reverse) from rfl]
    walk_at "mir"
    rw [isO_own]
    walk_at "mir")]
  walk_at "mir"
  rw [all_true]
  walk_at "mir"
  rw [m_isrowof (d := .lst (c.links.map .str)) (.inl rfl) (a := ((c.progs.map revD).length : Int) - 1) (b := ((c.progs.map revD).length : Int) - 1) (by rw [List.length_map, List.length_map]; omega) (by rw [List.length_map, List.length_map]; omega)]
  walk_at "mir"
  rw [show oZip3 (.lst (c.progs.map revD)) (.lst (c.links.map .str)) (.lst (cut (c.progs.map revD) (some 1) none)) = some (zip3 (c.progs.map revD) (c.links.map .str) ((c.progs.map revD).drop 1)) by
    rw [show (1 : Int) = ((1 : Nat) : Int) from rfl, cut_from]; rfl]
  walk_at "mir"
  obtain ⟨j3, j4, j5, e⟩ := chain_loop (some (.ob a "Chain" all_Chain [])) (some (S.d (.lst (c.progs.map revD)))) (some (S.d (.lst (c.links.map .str)))) c.progs c.links hc.ok hc.link none none none
  rw [e]
  walk_at "mir"
  rw [if_pos a1, show ∀ x : D, putD (Str.ofString "programs") x [] = [(Str.ofString "programs", x)] from fun _ => rfl]
  walk_at "mir"
  rw [if_pos a2, show ∀ x y : D, putD (Str.ofString "links") y [(Str.ofString "programs", x)] = [(Str.ofString "programs", x), (Str.ofString "links", y)] from fun x y => by simp (implicitDefEqProofs := false) only [putD, ne_programs_links, if_false]]
  simp (implicitDefEqProofs := false) only [R.of_some, R.bind_ok, endI, List.getElem?_cons_zero, and_self, if_true]
  rfl
theorem m_lawchain {c : CPlan} (hc : ChainOk c) : m__law_chain [.lst (cplanD c)] = .ok (.val (chainD c)) := by
  have h3 := hc.le
  have a0 : ∀ q : Prog, atI (planD q) 0 = some (.tup (q.names.map .str)) := fun q => atI_ofNat _ 0
  have a1 : ∀ q : Prog, atI (planD q) 1 = some (.tup (q.chs.map chD)) := fun q => atI_ofNat _ 1
  have a2 : ∀ q : Prog, atI (planD q) 2 = some (.tup (q.sts.map dN)) := fun q => atI_ofNat _ 2
  have a3 : ∀ q : Prog, atI (planD q) 3 = some (.tup (q.rules.map rulD)) := fun q => atI_ofNat _ 3
  unfold m__law_chain
  rw [show cplanD c = [.lst (c.progs.map fun p => .lst (planD p)), .lst (c.links.map .str)] from rfl]
  walk_at "mir"
  rw [lc_map (fun p : Prog => D.lst (planD p)) (f := revD) (by omega) (fun x hx => by
    unfold e__law_chain_1
    walk_at "mir"
    rw [a0]
    walk_at "mir"
    rw [a1]
    walk_at "mir"
    rw [a2]
    walk_at "mir"
    rw [a3]
    walk_at "mir"
    rw [← List.map_reverse]
    rw [m_prog (hc.ok x hx) (rs := x.rules.reverse) (List.reverse_perm _) (.inl rfl) (.inl rfl) (.inl rfl) (.inl rfl)]
    walk_at "mir"
    rfl)]
  walk_at "mir"
  rw [m_chain hc]
  walk_at "mir"
  rfl

end K09
namespace K09
open PySem PySem.Spec PyProof.Rows L2 DL
local macro_rules | `(tactic| walk_at "mir") => `(tactic| try simp (implicitDefEqProofs := false) only [runD, startE, endO, List.map_cons, List.map_nil, List.length_cons, List.length_nil, Nat.sub_self, Nat.reduceAdd, Nat.reduceSub, Nat.reduceMul, List.replicate, List.cons_append, List.nil_append, if_pos, R.bind_ok, R.of_some, R.map_ok, Option.bind_some, Option.map_some, withR_ok, seqO_nx, seqO_rt, List.set_cons_zero, List.set_cons_succ, List.getElem?_cons_zero, List.getElem?_cons_succ,
  eC, eOp, lOp, eCmp, bCmp, eNotInD, eUn, lUn, eIsi, eIsi2, eIf, eAnd, eOr, bAnd, bOr, bNot, bVal, eChain, bChain, pNone, pSome, lSl, eSlT, eSlR, aNil, aCons, eTup, lLst, eFz, eAttr, eCall, lCall, lLc, bYes, gsNil, gsCons, gT, iSeq, iR1, iR2, iZip2, iEnm, sNx, sSeq, sSet, sSetF, sSetFz, sAsg, sExpr, sRet, sRetF, sRetOwn, sRetN, sIf, sApp, sIns, sAug, sFor, sFrz, sFldM, sSetM, sPutD, eMelt, lMelt, eMake, eMakeD, sExt, eDc, eIxG, sRaise, eIsO, iZip3, lLcN, cNext,
  getD, getB, slotL, slotD, slotM, freeze, setD, rowOf_tup, rowOf_lst, Ret_v_val, Ret_v_frl, Ret_f_frl, oItems_lst, oItems_tup, oIx_lst, oIx_tup, oIx_scr, oLen_lst, oLen_tup, oLen_scr, cInt_int, oAdd_int, oSub_int, oInt_int, oTuple_lst, oTuple_tup, oList_lst, oList_tup, oBl_bl, oNot_bl, oSlL_lst, oSlL_scr, oSlT_tup, oSlR_tup, oSlR_lst, oI_int, oAttr_obj, at0, at1, at2, at3, at4, at5, oNeg_int, oRev_lst, Int.reduceNeg, oAug_int, oSlR_scr, cEq_int, oSeq_lst, oSeq_tup, lcItem, calm_ok, cElt, wipeE, if_true, if_false, Bool.false_eq_true, Bool.true_eq_false, Bool.not_true, Bool.not_false, reduceCtorEq, mkL_ok, oMod_int, oDiv_int, oMul_int, oPow_10_18, Int.reduceLT, Int.reduceLE, Int.reduceNeg, Int.reducePow, Nat.reduceLeDiff, Nat.reduceLT, and_self, true_or, or_true, and_true, true_and, Nat.zero_le, Int.zero_add])
local macro_rules | `(tactic| walk_at "mir*") => `(tactic| try simp (implicitDefEqProofs := false) only [runD, startE, endO, List.map_cons, List.map_nil, List.length_cons, List.length_nil, Nat.sub_self, Nat.reduceAdd, Nat.reduceSub, Nat.reduceMul, List.replicate, List.cons_append, List.nil_append, if_pos, R.bind_ok, R.of_some, R.map_ok, Option.bind_some, Option.map_some, withR_ok, seqO_nx, seqO_rt, List.set_cons_zero, List.set_cons_succ, List.getElem?_cons_zero, List.getElem?_cons_succ,
  eC, eOp, lOp, eCmp, bCmp, eNotInD, eUn, lUn, eIsi, eIsi2, eIf, eAnd, eOr, bAnd, bOr, bNot, bVal, eChain, bChain, pNone, pSome, lSl, eSlT, eSlR, aNil, aCons, eTup, lLst, eFz, eAttr, eCall, lCall, lLc, bYes, gsNil, gsCons, gT, iSeq, iR1, iR2, iZip2, iEnm, sNx, sSeq, sSet, sSetF, sSetFz, sAsg, sExpr, sRet, sRetF, sRetOwn, sRetN, sIf, sApp, sIns, sAug, sFor, sFrz, sFldM, sSetM, sPutD, eMelt, lMelt, eMake, eMakeD, sExt, eDc, eIxG, sRaise, eIsO, iZip3, lLcN, cNext,
  getD, getB, slotL, slotD, slotM, freeze, setD, rowOf_tup, rowOf_lst, Ret_v_val, Ret_v_frl, Ret_f_frl, oItems_lst, oItems_tup, oIx_lst, oIx_tup, oIx_scr, oLen_lst, oLen_tup, oLen_scr, cInt_int, oAdd_int, oSub_int, oInt_int, oTuple_lst, oTuple_tup, oList_lst, oList_tup, oBl_bl, oNot_bl, oSlL_lst, oSlL_scr, oSlT_tup, oSlR_tup, oSlR_lst, oI_int, oAttr_obj, at0, at1, at2, at3, at4, at5, oNeg_int, oRev_lst, Int.reduceNeg, oAug_int, oSlR_scr, cEq_int, oSeq_lst, oSeq_tup, lcItem, calm_ok, cElt, wipeE, if_true, if_false, Bool.false_eq_true, Bool.true_eq_false, Bool.not_true, Bool.not_false, reduceCtorEq, mkL_ok, oMod_int, oDiv_int, oMul_int, oPow_10_18, Int.reduceLT, Int.reduceLE, Int.reduceNeg, Int.reducePow, Nat.reduceLeDiff, Nat.reduceLT, and_self, true_or, or_true, and_true, true_and, Nat.zero_le, Int.zero_add, decide_true, decide_false, *])
/-! ### the program's ranks and classes -/
theorem chain_ints (cs : List Plc) : (cs.flatMap fun c => c.2.map D.int) = (cs.flatMap (·.2)).map D.int := by
  induction cs with
  | nil => rfl
  | cons c r ih => rw [List.flatMap_cons, List.flatMap_cons, List.map_append, ih]
theorem m_integers {bd md : D} {bs ds : List D} {cs : List Plc} {ms : List Msg} (hb : IsRow bd bs) (rb : All2 PlaceRow bs cs) (hm : IsRow md ds) (rm : All2 MsgRow ds ms) (hl : (intsOf cs ms).length < 64) :
    m_integers_in [bd, md] = .ok (.frl ((numsOf cs ms).map .int)) := by
  have hl1 : (cs.flatMap (·.2)).length + (ms.map (·.2)).length < 64 := by rw [← List.length_append]; exact hl
  have lm := rm.len
  have lmm : (ms.map (·.2)).length = ms.length := List.length_map _
  unfold m_integers_in
  walk_at "mir"
  rw [hb.items]
  walk_at "mir"
  have e1 : lcB (lcN (setD 3) bYes (cNext (iSeq (eOp oIx (getB 3) (eC (.int 1)))) [4] (lcN (setD 4) bYes (cElt (getD 4))))) [3, 4] [3, 4] [some (S.d bd), some (S.d md), none, none, none, none] bs = some ((cs.flatMap (·.2)).map D.int) := by
    unfold lcB
    rw [lcN_flat2 (f := fun c : Plc => c.2.map D.int) (rb.imp fun d c _ ⟨dk, h1, h2⟩ => by
      have e0 : setD 3 d (wipeE (wipeE [some (S.d bd), some (S.d md), none, none, none, none] [3, 4]) [3, 4]) = some [some (S.d bd), some (S.d md), none, some (S.d d), none, none] := rfl
      rw [e0]
      simp only [Option.bind_some, cNext]
      walk_at "mir"
      rw [h1.ix, show atI [dN c.1, dk] 1 = some dk from atI_ofNat _ 1]
      walk_at "mir"
      rw [h2.items]
      walk_at "mir"
      rw [lcN_flat D.int (f := fun n => [D.int n]) (fun n _ => by
        show ((some _ : Option DL.Env).bind _) = _
        rfl)]
      rw [show (c.2.flatMap fun n => [D.int n]) = c.2.map D.int from by induction c.2 with | nil => rfl | cons a r ih => rw [List.flatMap_cons, ih]; rfl])]
    rw [chain_ints]
    show (if _ then _ else _) = _
    rw [if_pos (by rw [List.length_map]; omega)]
  rw [e1]
  walk_at "mir"
  rw [hm.items]
  walk_at "mir"
  rw [lc_map2 (fe := e_integers_in_1) (f := fun m : Msg => D.int m.2) (by omega) (rm.imp fun d m _ h => by
    unfold lcItem e_integers_in_1
    walk_at "mir"
    rw [h.ix, show atI [D.str m.1, D.int m.2] 1 = some (.int m.2) from atI_ofNat _ 1]
    walk_at "mir")]
  walk_at "mir"
  rw [show (ms.map fun m : Msg => D.int m.2) = (ms.map (·.2)).map D.int from by rw [List.map_map]; rfl]
  rw [show oCat (.lst ((cs.flatMap (·.2)).map D.int)) (.lst ((ms.map (·.2)).map D.int)) = some ((intsOf cs ms).map D.int) from by
    rw [catD (by rw [List.length_map, List.length_map]; omega)]
    unfold intsOf
    rw [List.map_append]]
  walk_at "mir"
  rw [show oSetSorted (.lst ((intsOf cs ms).map D.int)) = some ((numsOf cs ms).map D.int) from by
    show (ints? ((intsOf cs ms).map D.int)).bind _ = _
    rw [DL.ints_map]
    simp only [Option.bind_some]
    rw [if_pos hl]
    rfl]
  walk_at "mir"
def rkKV (k : Nat) (ns : List Int) : List (Key × D) := (ns.zipIdx k).map fun p => (Sum.inl p.1, .int (p.2 : Nat))
theorem rkKV_keys (k : Nat) (ns : List Int) : (rkKV k ns).map (·.1) = ns.map Sum.inl := by
  unfold rkKV
  rw [List.map_map]
  induction ns generalizing k with
  | nil => rfl
  | cons n r ih => rw [List.zipIdx_cons, List.map_cons, List.map_cons, ih]; rfl
theorem put_new {kvs : List (Key × D)} {k : Key} {v : D} (h : k ∉ kvs.map (·.1)) : putE kvs k v = kvs ++ [(k, v)] := by
  unfold putE
  rw [if_neg]
  intro q
  obtain ⟨p, hp, e⟩ := List.any_eq_true.mp q
  exact h (List.mem_map.mpr ⟨p, hp, by simpa using e⟩)
theorem dc_ranks (ρ : DL.Env) (a0 : Option S) (hρ : ρ = [a0, none, none]) : ∀ (ns : List Int) (k : Nat) (acc : List (Key × D)), (∀ n ∈ ns, Sum.inl n ∉ acc.map (·.1)) → ns.Nodup →
    dcAll (dcItem [1, 2] (gT 2 (gsCons (setD 1) (gsCons (setD 2) gsNil))) bYes e_ranks_of_1 e_ranks_of_2 ρ) ((ns.zipIdx k).map fun p => .tup [.int (p.2 : Nat), .int p.1]) acc = some (acc ++ rkKV k ns)
  | [], k, acc, _, _ => by simp [dcAll, rkKV]
  | n :: r, k, acc, h, nd => by
    rw [List.zipIdx_cons, List.map_cons]
    unfold dcAll
    have e : dcItem [1, 2] (gT 2 (gsCons (setD 1) (gsCons (setD 2) gsNil))) bYes e_ranks_of_1 e_ranks_of_2 ρ (.tup [.int (k : Nat), .int n]) = some (some (Sum.inl n, .int (k : Nat))) := by
      subst hρ
      unfold dcItem e_ranks_of_1 e_ranks_of_2
      walk_at "mir"
      rfl
    rw [e]
    simp only [Option.bind_some]
    rw [put_new (h n List.mem_cons_self)]
    have n1 := List.nodup_cons.mp nd
    rw [dc_ranks ρ a0 hρ r (k + 1) (acc ++ [(Sum.inl n, D.int (k : Nat))]) (fun m hm => by
      rw [List.map_append]
      intro q
      rcases List.mem_append.mp q with q | q
      · exact h m (List.mem_cons_of_mem _ hm) q
      · simp at q
        subst q
        exact n1.1 hm) n1.2]
    rw [List.append_assoc]
    rfl
theorem m_ranks {ns : List Int} (nd : ns.Nodup) (hl : ns.length ≤ 1000) : m_ranks_of [.lst (ns.map .int)] = .ok (.val (.dck (rkKV 0 ns))) := by
  unfold m_ranks_of
  walk_at "mir"
  rw [show oEnum (.lst (ns.map D.int)) = some ((ns.zipIdx 0).map fun p => .tup [.int (p.2 : Nat), .int p.1]) from by
    unfold oEnum
    rw [oSeq_lst]
    exact congrArg some (enumD_map D.int 0 ns)]
  walk_at "mir"
  rw [show dcF [1, 2] (gT 2 (gsCons (setD 1) (gsCons (setD 2) gsNil))) bYes e_ranks_of_1 e_ranks_of_2 [some (S.d (.lst (ns.map D.int))), none, none] ((ns.zipIdx 0).map fun p => .tup [.int (p.2 : Nat), .int p.1]) = some (.dck (rkKV 0 ns)) from by
    unfold dcF
    rw [if_pos (by unfold few; simp; omega), dc_ranks _ _ rfl ns 0 [] (by simp) nd]
    rfl]
  walk_at "mir"
theorem look_rk {ns : List Int} {i : Nat} {n : Int} (nd : ns.Nodup) (h : ns[i]? = some n) (k : Nat) : lookM (rkKV k ns) (Sum.inl n) = some (.int (k + i : Nat)) := by
  induction ns generalizing i k with
  | nil => simp at h
  | cons a r ih =>
    unfold lookM rkKV at *
    rw [List.zipIdx_cons, List.map_cons, List.find?_cons]
    have n1 := List.nodup_cons.mp nd
    cases i with
    | zero =>
      simp at h
      subst h
      simp
    | succ i =>
      have hr : r[i]? = some n := by simpa using h
      have ne : a ≠ n := fun e => n1.1 (by rw [e]; exact List.mem_of_getElem? hr)
      have e : decide ((Sum.inl a : Key) = Sum.inl n) = false := decide_eq_false fun q => ne (Sum.inl.inj q)
      simp only [e]
      rw [ih n1.2 hr (k + 1), show k + 1 + i = k + (i + 1) by omega]
/-- o has for each of the ints what f says -/
def Others (o : D) (f : Int → Int) (ns : List Int) : Prop := ∀ n ∈ ns, oIxG o (.int n) = some (.int (f n))
theorem others_rk {ns : List Int} (asc : ns.Pairwise (· < ·)) : Others (.dck (rkKV 0 ns)) (rk ns) ns := fun n hn => by
  obtain ⟨i, hi, e⟩ := List.mem_iff_getElem.mp hn
  have h : ns[i]? = some n := by rw [List.getElem?_eq_getElem hi, e]
  show (some (Sum.inl n : Key)).bind (lookM (rkKV 0 ns)) = _
  simp only [Option.bind_some]
  rw [look_rk (asc.imp fun h => Int.ne_of_lt h) h 0, Nat.zero_add]
  rw [show rk ns n = ((rkN ns n : Nat) : Int) from rfl, rk_at asc h]
theorem m_begwith {bd o : D} {bs : List D} {cs : List Plc} {f : Int → Int} {ns : List Int} (hb : IsRow bd bs) (rb : All2 PlaceRow bs cs) (ho : Others o f ns) (hin : ∀ c ∈ cs, ∀ n ∈ c.2, n ∈ ns) (hl : cs.length ≤ 1000) (hl2 : ∀ c ∈ cs, c.2.length ≤ 1000) :
    m_beginning_with [bd, o] = .ok (.val (.tup ((cs.map (mapC f)).map placeD))) := by
  have lb := rb.len
  unfold m_beginning_with
  walk_at "mir"
  rw [hb.items]
  walk_at "mir"
  have e : lcF [2, 3] (gT 2 (gsCons (setD 2) (gsCons (setD 3) gsNil))) bYes e_beginning_with_2 [some (S.d bd), some (S.d o), none, none, none] bs = some (cs.map fun c => placeD (mapC f c)) := by
    refine lc_map2 (by omega) (rb.imp fun d c hc ⟨dk, h1, h2⟩ => ?_)
    unfold lcItem
    walk_at "mir"
    rw [h1.row]
    walk_at "mir"
    unfold e_beginning_with_2
    walk_at "mir"
    rw [h2.items]
    walk_at "mir"
    rw [lc_map D.int (f := fun n => D.int (f n)) (by have := hl2 c hc; omega) (fun n hn => by
      unfold lcItem e_beginning_with_1
      walk_at "mir"
      rw [ho n (hin c hc n hn)]
      walk_at "mir")]
    walk_at "mir"
    try rw [mkL_ok (by simp)]
    walk_at "mir"
    simp only [placeD, mapC, List.map_map]
    rfl
  rw [e]
  walk_at "mir"
  rw [List.map_map]
  rfl
theorem m_msgwith {md o : D} {ds : List D} {ms : List Msg} {f : Int → Int} {ns : List Int} (hm : IsRow md ds) (rm : All2 MsgRow ds ms) (ho : Others o f ns) (hin : ∀ m ∈ ms, m.2 ∈ ns) (hl : ms.length ≤ 1000) :
    m_messages_with [md, o] = .ok (.val (.tup ((ms.map (mapM f)).map msgD))) := by
  have lb := rm.len
  unfold m_messages_with
  walk_at "mir"
  rw [hm.items]
  walk_at "mir"
  have e : lcF [2, 3] (gT 2 (gsCons (setD 2) (gsCons (setD 3) gsNil))) bYes e_messages_with_1 [some (S.d md), some (S.d o), none, none] ds = some (ms.map fun m => msgD (mapM f m)) := by
    refine lc_map2 (by omega) (rm.imp fun d m hm' h => ?_)
    unfold lcItem
    walk_at "mir"
    rw [h.row]
    walk_at "mir"
    unfold e_messages_with_1
    walk_at "mir"
    rw [ho m.2 (hin m hm')]
    walk_at "mir"
    try rw [mkL_ok (by simp)]
    walk_at "mir"
    rfl
  rw [e]
  walk_at "mir"
  rw [List.map_map]
  rfl
theorem flat_len {cs : List Plc} {c : Plc} (h : c ∈ cs) : c.2.length ≤ (cs.flatMap (·.2)).length := by
  induction cs with
  | nil => cases h
  | cons a r ih =>
    rw [List.flatMap_cons, List.length_append]
    rcases List.mem_cons.mp h with rfl | h
    · omega
    · have := ih h; omega
theorem m_ranked_ok {bd md : D} {bs ds : List D} {cs : List Plc} {ms : List Msg} (hb : IsRow bd bs) (rb : All2 PlaceRow bs cs) (hm : IsRow md ds) (rm : All2 MsgRow ds ms) (hl : (intsOf cs ms).length < 64) (hl1 : cs.length ≤ 1000) :
    m_ranked [bd, md] = .ok (.val (classD cs ms)) := by
  have l1 : (cs.flatMap (·.2)).length + (ms.map (·.2)).length < 64 := by rw [← List.length_append]; exact hl
  rw [List.length_map] at l1
  have ln := setI_len (intsOf cs ms)
  have hk : ∀ c ∈ cs, c.2.length ≤ 1000 := fun c hc => by
    have := flat_len hc
    omega
  have ho : Others (.dck (rkKV 0 (numsOf cs ms))) (rk (numsOf cs ms)) (numsOf cs ms) := others_rk (setI_asc (intsOf cs ms))
  unfold m_ranked
  walk_at "mir"
  rw [m_integers hb rb hm rm hl]
  walk_at "mir"
  rw [m_ranks (ns := numsOf cs ms) (setI_nodup _) (by show (setI (intsOf cs ms)).length ≤ _; omega)]
  walk_at "mir"
  rw [m_begwith hb rb ho (fun c hc n hn => mem_setI.mpr (kept_in hc hn)) hl1 hk]
  walk_at "mir"
  rw [m_msgwith hm rm ho (fun m hm => mem_setI.mpr (said_in hm)) (by omega)]
  walk_at "mir"
  try rw [mkL_ok (by simp)]
  walk_at "mir"
  rfl
theorem msgs_len {cs : List Plc} {ms : List Msg} (h1 : (cs.flatMap (·.2)).length ≤ 12) (h2 : ms.length ≤ 40) : (intsOf cs ms).length < 64 := by
  unfold intsOf
  rw [List.length_append, List.length_map]
  omega
theorem all2_right {α β : Type} {R : α → β → Prop} : ∀ {as : List α} {bs : List β}, All2 R as bs → ∀ b ∈ bs, ∃ a ∈ as, R a b
  | _, _, .nil, b, h => by cases h
  | _, _, .cons r t, b, h => by
    rcases List.mem_cons.mp h with rfl | h
    · exact ⟨_, List.mem_cons_self, r⟩
    · obtain ⟨a, ha, q⟩ := all2_right t b h
      exact ⟨a, List.mem_cons_of_mem _ ha, q⟩
theorem kept_len {c : CPlan} (hc : ChainOk c) {cs : List Plc} (hp : PlacesOk c cs) : (cs.flatMap (·.2)).length ≤ 12 := by
  have hl : cs.length ≤ 3 := by rw [← hp.len]; exact hc.le
  have h4 : ∀ x ∈ cs, x.2.length ≤ 4 := fun x hx => by
    obtain ⟨p, h1, h2⟩ := all2_right hp x hx
    have := h2.st
    exact (hc.ok p h1).sts.four _ (List.mem_of_getElem? h2.st)
  clear hp
  have : ∀ (k : Nat) (cs : List Plc), cs.length ≤ k → (∀ x ∈ cs, x.2.length ≤ 4) → (cs.flatMap (·.2)).length ≤ 4 * k := by
    intro k
    induction k with
    | zero => intro cs h _; have : cs = [] := List.length_eq_zero_iff.mp (by omega); subst this; exact Nat.le_refl _
    | succ k ih =>
      intro cs h h4
      cases cs with
      | nil => simp
      | cons a r =>
        rw [List.flatMap_cons, List.length_append]
        have := h4 a List.mem_cons_self
        have := ih r (by simpa using h) fun x hx => h4 x (List.mem_cons_of_mem _ hx)
        omega
  exact this 3 cs hl h4
theorem m_classin {c : CPlan} {p : Prog} (h : c.progs[0]? = some p) {d : D} {ds : List D} {ms : List Msg} (hd : IsRow d ds) (hr : All2 MsgRow ds ms) (hm : ∀ m ∈ ms, m.1 ∈ p.names) (h1 : 1 ≤ ms.length) (h2 : ms.length ≤ 40) :
    m_is_class_input [chainD c, d] = .ok (.val (.bl true)) := by
  have lm := hr.len
  unfold m_is_class_input
  walk_at "mir"
  rw [m_isrowof hd (by omega) (by omega)]
  walk_at "mir"
  rw [m_isinput h hd hr hm (by omega)]
  walk_at "mir"
theorem m_class_ok {c : CPlan} (hc : ChainOk c) {p : Prog} (h : c.progs[0]? = some p) {bd md : D} {bs ds : List D} {cs : List Plc} {ms : List Msg} (hp : PlacesOk c cs) (hb : IsRow bd bs) (rb : All2 PlaceRow bs cs) (hd : IsRow md ds) (rm : All2 MsgRow ds ms)
    (hm : ∀ m ∈ ms, m.1 ∈ p.names) (h1 : 1 ≤ ms.length) (h2 : ms.length ≤ 40) : m_class_of [chainD c, bd, md] = .ok (.val (classD cs ms)) := by
  have hk := kept_len hc hp
  have hl : cs.length ≤ 3 := by rw [← hp.len]; exact hc.le
  unfold m_class_of
  walk_at "mir"
  rw [m_isbeg hc hp hb rb]
  walk_at "mir"
  rw [show m_demand_class_input [chainD c, md] = .ok (.val .non) from by
    unfold m_demand_class_input
    walk_at "mir"
    rw [m_classin h hd rm hm h1 h2]
    walk_at "mir"]
  walk_at "mir"
  rw [m_ranked_ok hb rb hd rm (msgs_len hk h2) (by omega)]
  walk_at "mir"
theorem nats_eq (n : Nat) : EqD 1 (.lst ((List.range n).map fun i : Nat => D.int (i : Int))) := .lst fun d hd => by
  obtain ⟨i, _, rfl⟩ := List.mem_map.mp hd
  exact .int 0 _
theorem m_isclass_ok {c : CPlan} (hc : ChainOk c) {p : Prog} (h : c.progs[0]? = some p) {v bd md : D} {bs ds : List D} {cs : List Plc} {ms : List Msg} (hv : IsRow v [bd, md]) (hp : PlacesOk c cs) (hb : IsRow bd bs) (rb : All2 PlaceRow bs cs) (hd : IsRow md ds) (rm : All2 MsgRow ds ms)
    (hm : ∀ m ∈ ms, m.1 ∈ p.names) (h1 : 1 ≤ ms.length) (h2 : ms.length ≤ 40) (hn : numsOf cs ms = (List.range (numsOf cs ms).length).map fun i : Nat => (i : Int)) : m_is_class [chainD c, v] = .ok (.val (.bl true)) := by
  have hk := kept_len hc hp
  have ln := setI_len (intsOf cs ms)
  have hl := msgs_len hk h2
  have i0 : oIx v (.int 0) = some bd := by rw [hv.ix]; exact atI_ofNat _ 0
  have i1 : oIx v (.int 1) = some md := by rw [hv.ix]; exact atI_ofNat _ 1
  have hnl : (numsOf cs ms).length ≤ 64 := by show (setI (intsOf cs ms)).length ≤ _; omega
  unfold m_is_class
  walk_at "mir"
  rw [m_isrowof hv (by simp) (by simp)]
  walk_at "mir"
  rw [i0]
  walk_at "mir"
  rw [m_isbeg hc hp hb rb]
  walk_at "mir"
  rw [i1]
  walk_at "mir"
  rw [m_classin h hd rm hm h1 h2]
  walk_at "mir"
  try rw [i0]
  walk_at "mir"
  try rw [i1]
  walk_at "mir"
  rw [m_integers hb rb hd rm hl]
  walk_at "mir"
  rw [List.length_map, show oRange (.int ((numsOf cs ms).length : Nat)) = some ((List.range (numsOf cs ms).length).map fun i : Nat => D.int (i : Int)) from by
    exact if_pos ⟨Int.natCast_nonneg _, by omega⟩]
  walk_at "mir"
  have e : (numsOf cs ms).map D.int = (List.range (numsOf cs ms).length).map fun i : Nat => D.int (i : Int) := by
    conv => lhs; rw [hn]
    rw [List.map_map]; rfl
  rw [e, cEq_self ((nats_eq _).mono (by decide))]
  walk_at "mir"

end K09
namespace K09
open PySem PySem.Spec PyProof.Rows L2 DL
local macro_rules | `(tactic| walk_at "mir") => `(tactic| try simp (implicitDefEqProofs := false) only [runD, startE, endO, List.map_cons, List.map_nil, List.length_cons, List.length_nil, Nat.sub_self, Nat.reduceAdd, Nat.reduceSub, Nat.reduceMul, List.replicate, List.cons_append, List.nil_append, if_pos, R.bind_ok, R.of_some, R.map_ok, Option.bind_some, Option.map_some, withR_ok, seqO_nx, seqO_rt, List.set_cons_zero, List.set_cons_succ, List.getElem?_cons_zero, List.getElem?_cons_succ,
  eC, eOp, lOp, eCmp, bCmp, eNotInD, eUn, lUn, eIsi, eIsi2, eIf, eAnd, eOr, bAnd, bOr, bNot, bVal, eChain, bChain, pNone, pSome, lSl, eSlT, eSlR, aNil, aCons, eTup, lLst, eFz, eAttr, eCall, lCall, lLc, bYes, gsNil, gsCons, gT, iSeq, iR1, iR2, iZip2, iEnm, sNx, sSeq, sSet, sSetF, sSetFz, sAsg, sExpr, sRet, sRetF, sRetOwn, sRetN, sIf, sApp, sIns, sAug, sFor, sFrz, sFldM, sSetM, sPutD, eMelt, lMelt, eMake, eMakeD, sExt, eDc, eIxG, sRaise, eIsO, iZip3, lLcN, cNext,
  getD, getB, slotL, slotD, slotM, freeze, setD, rowOf_tup, rowOf_lst, Ret_v_val, Ret_v_frl, Ret_f_frl, oItems_lst, oItems_tup, oIx_lst, oIx_tup, oIx_scr, oLen_lst, oLen_tup, oLen_scr, cInt_int, oAdd_int, oSub_int, oInt_int, oTuple_lst, oTuple_tup, oList_lst, oList_tup, oBl_bl, oNot_bl, oSlL_lst, oSlL_scr, oSlT_tup, oSlR_tup, oSlR_lst, oI_int, oAttr_obj, at0, at1, at2, at3, at4, at5, oNeg_int, oRev_lst, Int.reduceNeg, oAug_int, oSlR_scr, cEq_int, oSeq_lst, oSeq_tup, lcItem, calm_ok, cElt, wipeE, if_true, if_false, Bool.false_eq_true, Bool.true_eq_false, Bool.not_true, Bool.not_false, reduceCtorEq, mkL_ok, oMod_int, oDiv_int, oMul_int, oPow_10_18, Int.reduceLT, Int.reduceLE, Int.reduceNeg, Int.reducePow, Nat.reduceLeDiff, Nat.reduceLT, and_self, true_or, or_true, and_true, true_and, Nat.zero_le, Int.zero_add])
local macro_rules | `(tactic| walk_at "mir*") => `(tactic| try simp (implicitDefEqProofs := false) only [runD, startE, endO, List.map_cons, List.map_nil, List.length_cons, List.length_nil, Nat.sub_self, Nat.reduceAdd, Nat.reduceSub, Nat.reduceMul, List.replicate, List.cons_append, List.nil_append, if_pos, R.bind_ok, R.of_some, R.map_ok, Option.bind_some, Option.map_some, withR_ok, seqO_nx, seqO_rt, List.set_cons_zero, List.set_cons_succ, List.getElem?_cons_zero, List.getElem?_cons_succ,
  eC, eOp, lOp, eCmp, bCmp, eNotInD, eUn, lUn, eIsi, eIsi2, eIf, eAnd, eOr, bAnd, bOr, bNot, bVal, eChain, bChain, pNone, pSome, lSl, eSlT, eSlR, aNil, aCons, eTup, lLst, eFz, eAttr, eCall, lCall, lLc, bYes, gsNil, gsCons, gT, iSeq, iR1, iR2, iZip2, iEnm, sNx, sSeq, sSet, sSetF, sSetFz, sAsg, sExpr, sRet, sRetF, sRetOwn, sRetN, sIf, sApp, sIns, sAug, sFor, sFrz, sFldM, sSetM, sPutD, eMelt, lMelt, eMake, eMakeD, sExt, eDc, eIxG, sRaise, eIsO, iZip3, lLcN, cNext,
  getD, getB, slotL, slotD, slotM, freeze, setD, rowOf_tup, rowOf_lst, Ret_v_val, Ret_v_frl, Ret_f_frl, oItems_lst, oItems_tup, oIx_lst, oIx_tup, oIx_scr, oLen_lst, oLen_tup, oLen_scr, cInt_int, oAdd_int, oSub_int, oInt_int, oTuple_lst, oTuple_tup, oList_lst, oList_tup, oBl_bl, oNot_bl, oSlL_lst, oSlL_scr, oSlT_tup, oSlR_tup, oSlR_lst, oI_int, oAttr_obj, at0, at1, at2, at3, at4, at5, oNeg_int, oRev_lst, Int.reduceNeg, oAug_int, oSlR_scr, cEq_int, oSeq_lst, oSeq_tup, lcItem, calm_ok, cElt, wipeE, if_true, if_false, Bool.false_eq_true, Bool.true_eq_false, Bool.not_true, Bool.not_false, reduceCtorEq, mkL_ok, oMod_int, oDiv_int, oMul_int, oPow_10_18, Int.reduceLT, Int.reduceLE, Int.reduceNeg, Int.reducePow, Nat.reduceLeDiff, Nat.reduceLT, and_self, true_or, or_true, and_true, true_and, Nat.zero_le, Int.zero_add, decide_true, decide_false, *])
/-! ### tuples in the place of lists -/
theorem kit_row (n : String) (h : kitB n "list" = some false) (h2 : kitB n "tuple" = some false) {d : D} (e : tyN d = some n) : isBs ["list", "tuple"] d = some false := by
  unfold isBs isB1
  rw [e]
  simp only [Option.bind_some, h]
  unfold isBs isB1
  rw [e]
  simp only [Option.bind_some, h2]
  rfl
theorem norow_int (i : Int) : isBs ["list", "tuple"] (.int i) = some false := kit_row "int" (by decide +kernel) (by decide +kernel) rfl
theorem norow_str (x : Str) : isBs ["list", "tuple"] (.str x) = some false := kit_row "str" (by decide +kernel) (by decide +kernel) rfl
theorem m_norow {d : D} (h : isBs ["list", "tuple"] d = some false) : m_is_row [d] = .ok (.val (.bl false)) := by
  unfold m_is_row
  walk_at "mir"
  rw [h]
  walk_at "mir"
def TupOf : Nat → D → D → Prop
  | 0, _, _ => False
  | n + 1, d, t => (∃ i, d = .int i ∧ t = .int i) ∨ (∃ x, d = .str x ∧ t = .str x) ∨ ∃ xs ts, IsRow d xs ∧ xs.length ≤ 5000 ∧ All2 (TupOf n) xs ts ∧ t = .tup ts
theorem TupOf.int (n : Nat) (i : Int) : TupOf (n + 1) (.int i) (.int i) := .inl ⟨i, rfl, rfl⟩
theorem TupOf.str (n : Nat) (x : Str) : TupOf (n + 1) (.str x) (.str x) := .inr (.inl ⟨x, rfl, rfl⟩)
theorem TupOf.row {n : Nat} {d : D} {xs ts : List D} (h : IsRow d xs) (l : xs.length ≤ 5000) (q : All2 (TupOf n) xs ts) : TupOf (n + 1) d (.tup ts) := .inr (.inr ⟨xs, ts, h, l, q, rfl⟩)
theorem m_tuples : ∀ {n : Nat} {d t : D}, TupOf n d t → m_tuples_of n [d] = .ok (.val t)
  | 0, _, _, h => h.elim
  | n + 1, d, t, h => by
    rcases h with ⟨i, rfl, rfl⟩ | ⟨x, rfl, rfl⟩ | ⟨xs, ts, hr, hl, hx, rfl⟩
    · unfold m_tuples_of
      walk_at "mir"
      rw [m_norow (norow_int i)]
      walk_at "mir"
    · unfold m_tuples_of
      walk_at "mir"
      rw [m_norow (norow_str x)]
      walk_at "mir"
    · unfold m_tuples_of
      walk_at "mir"
      rw [m_isrow hr]
      walk_at "mir"
      rw [hr.items]
      walk_at "mir"
      rw [lc_map2 (f := fun t : D => t) (xs := ts) (by have := hx.len; omega) (hx.imp fun x t _ q => by
        have e := m_tuples q
        unfold lcItem e_tuples_of_1
        walk_at "mir"
        rw [e]
        walk_at "mir")]
      walk_at "mir"
      rw [List.map_id']
theorem tup_ints (n : Nat) (ns : List Int) : All2 (TupOf (n + 1)) (ns.map D.int) (ns.map D.int) := All2.map fun i _ => .int n i
theorem tup_place {d : D} {x : Plc} (h : PlaceRow d x) (hl : x.2.length ≤ 5000) : TupOf 3 d (placeD x) := by
  obtain ⟨dk, h1, h2⟩ := h
  exact .row h1 (by simp) (.cons (.int 1 _) (.cons (.row h2 (by rw [List.length_map]; exact hl) (tup_ints 0 _)) .nil))
theorem tup_msg {d : D} {m : Msg} (h : MsgRow d m) : TupOf 3 d (msgD m) := .row h (by simp) (.cons (.str 1 _) (.cons (.int 1 _) .nil))
/-- a class as it stands -/
def clD (cs : List Plc) (ms : List Msg) : D := .tup [.tup (cs.map placeD), .tup (ms.map msgD)]
theorem tup_class {v bd md : D} {bs ds : List D} {cs : List Plc} {ms : List Msg} (hv : IsRow v [bd, md]) (hb : IsRow bd bs) (rb : All2 PlaceRow bs cs) (hd : IsRow md ds) (rm : All2 MsgRow ds ms) (l1 : cs.length ≤ 1000) (l2 : ms.length ≤ 1000) (l3 : ∀ x ∈ cs, x.2.length ≤ 5000) : TupOf 5 v (clD cs ms) := by
  have e1 := rb.len
  have e2 := rm.len
  refine .row hv (by simp) (.cons (.row hb (by omega) ?_) (.cons (.row hd (by omega) ?_) .nil))
  · exact all2_mapR (rb.imp fun d x hx h => tup_place h (l3 x hx))
  · exact all2_mapR (rm.imp fun d m _ h => tup_msg h)

theorem tup_mono : ∀ {n m : Nat} {d t : D}, n ≤ m → TupOf n d t → TupOf m d t
  | 0, _, _, _, _, h => h.elim
  | n + 1, 0, _, _, l, _ => absurd l (by omega)
  | n + 1, m + 1, d, t, l, h => by
    rcases h with h | h | ⟨xs, ts, h1, h2, h3, rfl⟩
    · exact .inl h
    · exact .inr (.inl h)
    · exact .row h1 h2 (h3.imp fun a b _ q => tup_mono (by omega) q)
/-! ### classes, and their deeds -/
/-- cs and ms are a class of the chain as they stand -/
structure ClsOk (c : CPlan) (cs : List Plc) (ms : List Msg) : Prop where
  pl : PlacesOk c cs
  nm : ∀ p, c.progs.head? = some p → ∀ m ∈ ms, m.1 ∈ p.names
  l1 : 1 ≤ ms.length
  l2 : ms.length ≤ 40
  all : numsOf cs ms = (List.range (numsOf cs ms).length).map fun i : Nat => (i : Int)
theorem head_at {c : CPlan} {p : Prog} : c.progs.head? = some p ↔ c.progs[0]? = some p := by cases c.progs <;> rfl
theorem first_prog {c : CPlan} (hc : ChainOk c) : ∃ p, c.progs[0]? = some p := ⟨c.progs[0]'hc.ne, List.getElem?_eq_getElem hc.ne⟩
theorem places_short {c : CPlan} (hc : ChainOk c) {cs : List Plc} (hp : PlacesOk c cs) : cs.length ≤ 3 ∧ ∀ x ∈ cs, x.2.length ≤ 12 := by
  have hk := kept_len hc hp
  exact ⟨by rw [← hp.len]; exact hc.le, fun x hx => by have := flat_len hx; omega⟩
section
variable {c : CPlan} {v bd md : D} {bs ds : List D} {cs : List Plc} {ms : List Msg}
theorem m_isclass' (hc : ChainOk c) (hk : ClsOk c cs ms) (hv : IsRow v [bd, md]) (hb : IsRow bd bs) (rb : All2 PlaceRow bs cs) (hd : IsRow md ds) (rm : All2 MsgRow ds ms) : m_is_class [chainD c, v] = .ok (.val (.bl true)) := by
  obtain ⟨p, hp⟩ := first_prog hc
  exact m_isclass_ok hc hp hv hk.pl hb rb hd rm (hk.nm p (head_at.mpr hp)) hk.l1 hk.l2 hk.all
theorem m_classfrom (hc : ChainOk c) (hk : ClsOk c cs ms) (hv : IsRow v [bd, md]) (hb : IsRow bd bs) (rb : All2 PlaceRow bs cs) (hd : IsRow md ds) (rm : All2 MsgRow ds ms) : m_class_from [chainD c, v] = .ok (.val (clD cs ms)) := by
  obtain ⟨q1, q2⟩ := places_short hc hk.pl
  have h2 := hk.l2
  unfold m_class_from
  walk_at "mir"
  rw [m_isclass' hc hk hv hb rb hd rm]
  walk_at "mir"
  rw [m_tuples (tup_mono (by decide) (tup_class hv hb rb hd rm (by omega) (by omega) fun x hx => by have := q2 x hx; omega))]
  walk_at "mir"
theorem m_deedof (hc : ChainOk c) (hk : ClsOk c cs ms) (hv : IsRow v [bd, md]) (hb : IsRow bd bs) (rb : All2 PlaceRow bs cs) (hd : IsRow md ds) (rm : All2 MsgRow ds ms) : m_deed_of [chainD c, v] = .ok (.frl ((c.deedC cs ms).map stepD)) := by
  have h2 := hk.l2
  unfold m_deed_of
  walk_at "mir"
  rw [m_classfrom hc hk hv hb rb hd rm]
  walk_at "mir"
  rw [show clD cs ms = .tup [.tup (cs.map placeD), .tup (ms.map msgD)] from rfl]
  walk_at "mir"
  rw [m_deedfrom hc hk.pl (.inr rfl) (All2.self fun x _ => placeRow_tup x) (.inr rfl) (All2.self fun x _ => msgRow_tup x) hk.nm (by omega)]
  walk_at "mir"
end
theorem cls_ok {c : CPlan} {cs : List Plc} {ms : List Msg} (h1 : PlacesOk c cs) (h2 : ∀ p, c.progs.head? = some p → ∀ m ∈ ms, m.1 ∈ p.names) (l1 : 1 ≤ ms.length) (l2 : ms.length ≤ 40) : ClsOk c (clsC cs ms) (clsM cs ms) :=
  ⟨places_mapS h1 fun x hx a ha b hb => rank_mono cs ms a (kept_in hx ha) b (kept_in hx hb), fun p e m hm => by
    obtain ⟨y, hy, rfl⟩ := List.mem_map.mp hm
    exact h2 p e y hy, by rw [List.length_map]; exact l1, by rw [List.length_map]; exact l2, by rw [nums_cls, List.length_map, List.length_range]⟩
theorem class_cl (cs : List Plc) (ms : List Msg) : classD cs ms = clD (clsC cs ms) (clsM cs ms) := rfl
/-! ### possible deeds -/
theorem nats_in {i : Int} {n : Nat} (h : 0 ≤ i ∧ i < n) : decide (0 ≤ i ∧ i < (n : Int)) = true := decide_eq_true h
theorem m_possout {p : Prog} (hp : ProgOk p) {rs : List Rul} {d : D} {o : Out3} (hd : OutRow d o) (ho : OutOf p o) {ranks : Nat} (hr : 0 ≤ o.2.2 ∧ o.2.2 < ranks) : m_is_possible_output [progD p rs, .int (ranks : Nat), d] = .ok (.val (.bl true)) := by
  obtain ⟨ch, hch, e1, e2⟩ := ho
  unfold m_is_possible_output
  rw [show progD p rs = .obj "Program" (progFields p rs) from rfl]
  walk_at "mir"
  rw [m_isrowof hd (by simp) (by simp)]
  walk_at "mir"
  rw [hd.row]
  walk_at "mir"
  rw [e1, m_signalsof (fieldsP p rs) hp.chs hch]
  walk_at "mir"
  rw [cInS_tup, decide_eq_true e2]
  walk_at "mir"
  rw [m_isindex, nats_in hr]
  walk_at "mir"
theorem m_posspart {p : Prog} (hp : ProgOk p) {rs : List Rul} {d : D} {r : Part} (hd : PartRow d r) {most ranks : Nat} (h : PossPart p most ranks r) (hm : most ≤ 1000) : m_is_possible_part [progD p rs, .int (ranks : Nat), .int (most : Nat), d] = .ok (.val (.bl true)) := by
  obtain ⟨dk, dw, ws, h1, h2, h3, h4⟩ := hd
  have k4 : r.1.2.length ≤ 4 := hp.sts.four _ (List.mem_of_getElem? h.place.st)
  have lw := h4.len
  have lf := h.few
  have i1 : oIx d (.int 1) = some dk := by rw [h1.ix]; exact atI_ofNat _ 1
  have i2 : oIx d (.int 2) = some dw := by rw [h1.ix]; exact atI_ofNat _ 2
  obtain ⟨d', e1, e2⟩ : ∃ d', oSlR d none (some 2) = some d' ∧ IsRow d' [dN r.1.1, dk] := by
    rcases h1 with rfl | rfl
    · exact ⟨_, rfl, .inl rfl⟩
    · exact ⟨_, rfl, .inr rfl⟩
  unfold m_is_possible_part
  walk_at "mir"
  rw [m_isrowof h1 (by simp) (by simp)]
  walk_at "mir"
  rw [e1]
  walk_at "mir"
  rw [m_isconf hp.sts rs ⟨dk, e2, h2⟩ h.place]
  walk_at "mir"
  rw [i1]
  walk_at "mir"
  rw [h2.items]
  walk_at "mir"
  rw [lc_map D.int (f := fun _ => D.bl true) (by omega) (fun n hn => by
    unfold lcItem e_is_possible_part_1
    walk_at "mir"
    rw [m_isindex, nats_in (h.kept n hn)]
    walk_at "mir")]
  walk_at "mir"
  rw [all_true]
  walk_at "mir"
  rw [i2]
  walk_at "mir"
  rw [m_isrowof h3 (by omega) (by omega)]
  walk_at "mir"
  try rw [i2]
  walk_at "mir"
  rw [h3.items]
  walk_at "mir"
  rw [lc_map2 (f := fun _ : Out3 => D.bl true) (by omega) (h4.imp fun x o ho q => by
    unfold lcItem e_is_possible_part_2
    walk_at "mir"
    rw [m_possout hp q (h.outs o ho).1 (h.outs o ho).2]
    walk_at "mir")]
  walk_at "mir"
  rw [all_true]
  walk_at "mir"
theorem poss_turn {ranks most : Nat} (a ch : D) {p : Prog} {r : Part} (pk : ProgOk p) (hr : PossPart p (most * 3) ranks r) (hm3 : most * 3 ≤ 1000) {d : D} (q1 : PartRow d r) :
    b_is_possible_step_1 [some (.d ch), some (.d (.int (ranks : Nat))), some (.d a), some (.d (.int (most : Nat))), some (.d (revD p)), some (.d d)] = some (.nx [some (.d ch), some (.d (.int (ranks : Nat))), some (.d a), some (.d (.int ((most * 3 : Nat) : Int))), some (.d (revD p)), some (.d d)]) := by
  unfold b_is_possible_step_1
  walk_at "mir"
  try rw [oMul_int (.inr (by decide))]
  walk_at "mir"
  rw [show (most : Int) * 3 = ((most * 3 : Nat) : Int) by omega]
  rw [m_posspart pk q1 hr hm3]
  walk_at "mir"
theorem poss_loop {ranks : Nat} (a ch : D) {most : Nat} {ps : List Prog} {rs : List Part} (h : PossStep ranks most ps rs) : (∀ p ∈ ps, ProgOk p) → most * 3 ^ ps.length ≤ 1000 → ∀ {ds : List D}, All2 PartRow ds rs → ∀ j4 j5 : Option S, ∃ k3 k4 k5,
    forD (gT 2 (gsCons (setD 4) (gsCons (setD 5) gsNil))) b_is_possible_step_1 (zip2 (ps.map revD) ds) [some (.d ch), some (.d (.int (ranks : Nat))), some (.d a), some (.d (.int (most : Nat))), j4, j5] = some (.nx [some (.d ch), some (.d (.int (ranks : Nat))), some (.d a), k3, k4, k5]) := by
  induction h with
  | nil =>
    intro _ _ ds h j4 j5
    cases h
    exact ⟨_, _, _, rfl⟩
  | @cons most p ps r rs hr t ih =>
    intro hp hm ds h j4 j5
    cases h with
    | @cons d _ ds' _ q1 q2 =>
      have hpow : 1 ≤ 3 ^ ps.length := Nat.one_le_pow _ _ (by decide)
      have hm2 : most * 3 * 3 ^ ps.length ≤ 1000 := by
        rw [List.length_cons, Nat.pow_succ] at hm
        rw [Nat.mul_assoc, Nat.mul_comm 3]; exact hm
      have hm3 : most * 3 ≤ 1000 := Nat.le_trans (Nat.le_mul_of_pos_right _ hpow) hm2
      obtain ⟨k3, k4, k5, e⟩ := ih (fun p hp' => hp p (List.mem_cons_of_mem _ hp')) hm2 q2 (some (.d (revD p))) (some (.d d))
      refine ⟨k3, k4, k5, ?_⟩
      have e0 : ∀ x y s0 s1 s2 s3 : Option S, ∀ u w : D, gT 2 (gsCons (setD 4) (gsCons (setD 5) gsNil)) (.tup [u, w]) [s0, s1, s2, s3, x, y] = some [s0, s1, s2, s3, some (.d u), some (.d w)] := fun x y s0 s1 s2 s3 u w => by
        walk_at "mir"
      have ez : zip2 ((p :: ps).map revD) (d :: ds') = .tup [revD p, d] :: zip2 (ps.map revD) ds' := by rw [List.map_cons]; rfl
      rw [ez]
      exact forD_step (e0 _ _ _ _ _ _ _ _) (poss_turn a ch (hp p List.mem_cons_self) hr hm3 q1) e
theorem m_possstep {c : CPlan} (hc : ChainOk c) {ranks : Nat} {rs : List Part} (h : PossStep ranks 1 c.progs rs) {d : D} (hd : StepRow d rs) : m_is_possible_step [chainD c, .int (ranks : Nat), d] = .ok (.val (.bl true)) := by
  obtain ⟨ps, h1, h2⟩ := hd
  have hl : ps.length = c.progs.length := by
    rw [h2.len]
    clear h1 h2
    generalize c.progs = qs at h
    generalize 1 = k at h
    induction h with
    | nil => rfl
    | cons _ _ ih => rw [List.length_cons, List.length_cons, ih]
  have h3 := hc.le
  have hpow : 1 * 3 ^ c.progs.length ≤ 1000 := by
    calc 1 * 3 ^ c.progs.length ≤ 1 * 3 ^ 3 := Nat.mul_le_mul_left 1 (Nat.pow_le_pow_right (by decide) h3)
      _ ≤ 1000 := by decide
  obtain ⟨k3, k4, k5, e⟩ := poss_loop d (chainD c) h hc.ok hpow h2 none none
  unfold m_is_possible_step
  rw [show chainD c = .obj "Chain" (chainFields c) from rfl] at e ⊢
  walk_at "mir"
  rw [m_isrow h1]
  walk_at "mir"
  rw [h1.len]
  walk_at "mir"
  rw [programsC]
  walk_at "mir"
  rw [List.length_map, hl, show cNe (.int (c.progs.length : Nat)) (.int (c.progs.length : Nat)) = some false from cNe_self (.int _ _)]
  walk_at "mir"
  try rw [programsC]
  walk_at "mir"
  rw [show oZip2 (.tup (c.progs.map revD)) d = some (zip2 (c.progs.map revD) ps) from by rcases h1 with rfl | rfl <;> rfl]
  walk_at "mir"
  rw [show D.int 1 = D.int ((1 : Nat) : Int) from rfl, e]
  walk_at "mir"
theorem m_isdeed {c : CPlan} (hc : ChainOk c) {cs : List Plc} {ms : List Msg} {v bd md : D} {bs ds : List D} (hv : IsRow v [bd, md]) (hb : IsRow bd bs) (rb : All2 PlaceRow bs cs) (hd : IsRow md ds) (rm : All2 MsgRow ds ms) (hl : (intsOf cs ms).length < 64) (h40 : ms.length ≤ 40)
    {X : List (List Part)} (h : PossDeed c (numsOf cs ms).length ms.length X) {d : D} {xs : List D} (hx : IsRow d xs) (rx : All2 StepRow xs X) : m_is_deed [chainD c, v, d] = .ok (.val (.bl true)) := by
  have e1 := rx.len
  have e2 := rm.len
  have e3 := h.1
  unfold m_is_deed
  walk_at "mir"
  rw [hv.row]
  walk_at "mir"
  rw [m_isrow hx]
  walk_at "mir"
  rw [hx.len]
  walk_at "mir"
  rw [hd.len]
  walk_at "mir"
  rw [show (xs.length : Int) = (ds.length : Nat) by omega, show cNe (.int (ds.length : Nat)) (.int (ds.length : Nat)) = some false from cNe_self (.int _ _)]
  walk_at "mir"
  rw [m_integers hb rb hd rm hl]
  walk_at "mir"
  rw [List.length_map]
  rw [hx.items]
  walk_at "mir"
  rw [lc_map2 (f := fun _ : List Part => D.bl true) (by omega) (rx.imp fun x rs hrs q => by
    unfold lcItem e_is_deed_1
    walk_at "mir"
    rw [m_possstep hc (h.2 rs hrs) q]
    walk_at "mir")]
  walk_at "mir"
  rw [all_true]
  walk_at "mir"
/-! ### served -/
theorem others_back (ns : List Int) : ∀ i : Int, (0 ≤ i ∧ i < ns.length) → oIxG (.lst (ns.map .int)) (.int i) = some (.int (back ns i)) := fun i h => by
  have e : i = ((i.toNat : Nat) : Int) := by omega
  have h2 : i.toNat < ns.length := by omega
  show oIx (.lst (ns.map .int)) (.int i) = _
  rw [oIx_lst, e, atI_ofNat, List.getElem?_map, List.getElem?_eq_getElem h2]
  unfold back
  rw [Int.toNat_natCast, List.getD_eq_getElem?_getD, List.getElem?_eq_getElem h2]
  rfl
theorem m_partwith {f : Int → Int} {o d : D} {r : Part} (hd : PartRow d r) (ho : (∀ n ∈ r.1.2, oIxG o (.int n) = some (.int (f n))) ∧ ∀ x ∈ r.2, oIxG o (.int x.2.2) = some (.int (f x.2.2))) (l1 : r.1.2.length ≤ 1000) (l2 : r.2.length ≤ 1000) : m_part_with [d, o] = .ok (.val (partD (mapR f r))) := by
  obtain ⟨dk, dw, ws, h1, h2, h3, h4⟩ := hd
  have lw := h4.len
  unfold m_part_with
  walk_at "mir"
  rw [h1.row]
  walk_at "mir"
  rw [h2.items]
  walk_at "mir"
  rw [lc_map D.int (f := fun n => D.int (f n)) (by omega) (fun n hn => by
    unfold lcItem e_part_with_1
    walk_at "mir"
    rw [ho.1 n hn]
    walk_at "mir")]
  walk_at "mir"
  rw [h3.items]
  walk_at "mir"
  rw [lc_map2 (f := fun x : Out3 => outD (mapO f x)) (by omega) (h4.imp fun w x hx q => by
    unfold lcItem
    walk_at "mir"
    rw [q.row]
    walk_at "mir"
    unfold e_part_with_2
    walk_at "mir"
    rw [ho.2 x hx]
    walk_at "mir"
    try rw [mkL_ok (by simp)]
    walk_at "mir"
    rfl)]
  walk_at "mir"
  try rw [mkL_ok (by simp)]
  walk_at "mir"
  simp only [partD, mapR, mapC, List.map_map]
  rfl
theorem m_stepswith {f : Int → Int} {o d : D} {xs : List D} {X : List (List Part)} (hd : IsRow d xs) (rx : All2 StepRow xs X) (ho : ∀ rs ∈ X, ∀ r ∈ rs, ((∀ n ∈ r.1.2, oIxG o (.int n) = some (.int (f n))) ∧ ∀ x ∈ r.2, oIxG o (.int x.2.2) = some (.int (f x.2.2))) ∧ r.1.2.length ≤ 1000 ∧ r.2.length ≤ 1000)
    (l1 : X.length ≤ 5000) (l2 : ∀ rs ∈ X, rs.length ≤ 1000) : m_steps_with [d, o] = .ok (.frl ((mapX f X).map stepD)) := by
  have lx := rx.len
  unfold m_steps_with
  walk_at "mir"
  rw [hd.items]
  walk_at "mir"
  rw [lc_map2 (f := fun rs : List Part => stepD (rs.map (mapR f))) (by omega) (rx.imp fun x rs hrs q => by
    obtain ⟨ps, h1, h2⟩ := q
    have lp := h2.len
    have lr := l2 rs hrs
    unfold lcItem e_steps_with_2
    walk_at "mir"
    rw [h1.items]
    walk_at "mir"
    rw [lc_map2 (f := fun r : Part => partD (mapR f r)) (by omega) (h2.imp fun y r hr q => by
      have z := ho rs hrs r hr
      unfold lcItem e_steps_with_1
      walk_at "mir"
      rw [m_partwith q z.1 z.2.1 z.2.2]
      walk_at "mir")]
    walk_at "mir"
    simp only [stepD, List.map_map]
    rfl)]
  walk_at "mir"
  simp only [mapX, List.map_map]
  rfl
theorem poss_at {ranks most : Nat} {ps : List Prog} {rs : List Part} (h : PossStep ranks most ps rs) : rs.length = ps.length ∧ ∀ r ∈ rs, ∃ p ∈ ps, PossPart p (most * 3 ^ ps.length) ranks r := by
  induction h with
  | nil => exact ⟨rfl, fun r h => by cases h⟩
  | @cons most p ps r rs hr t ih =>
    have hpow : 1 ≤ 3 ^ ps.length := Nat.one_le_pow _ _ (by decide)
    have e : most * 3 ^ (p :: ps).length = most * 3 * 3 ^ ps.length := by
      rw [List.length_cons, Nat.pow_succ, Nat.mul_assoc, Nat.mul_comm 3]
    refine ⟨by rw [List.length_cons, List.length_cons, ih.1], fun x hx => ?_⟩
    rw [e]
    rcases List.mem_cons.mp hx with rfl | hx
    · exact ⟨p, List.mem_cons_self, hr.place, hr.kept, Nat.le_trans hr.few (Nat.le_mul_of_pos_right _ hpow), hr.outs⟩
    · obtain ⟨q, hq, z⟩ := ih.2 x hx
      exact ⟨q, List.mem_cons_of_mem _ hq, z⟩
theorem poss_short {c : CPlan} (hc : ChainOk c) {ranks : Nat} {rs : List Part} (h : PossStep ranks 1 c.progs rs) : rs.length ≤ 3 ∧ ∀ r ∈ rs, (∀ n ∈ r.1.2, 0 ≤ n ∧ n < ranks) ∧ (∀ o ∈ r.2, 0 ≤ o.2.2 ∧ o.2.2 < ranks) ∧ r.1.2.length ≤ 4 ∧ r.2.length ≤ 27 ∧ ∀ o ∈ r.2, PyData.strOk o.1 = true ∧ PyData.strOk o.2.1 = true := by
  obtain ⟨h1, h2⟩ := poss_at h
  have h3 := hc.le
  refine ⟨by omega, fun r hr => ?_⟩
  obtain ⟨p, hp, q⟩ := h2 r hr
  refine ⟨q.kept, fun o ho => (q.outs o ho).2, (hc.ok p hp).sts.four _ (List.mem_of_getElem? q.place.st), ?_, fun o ho => outOf_str (hc.ok p hp) (q.outs o ho).1⟩
  calc r.2.length ≤ 1 * 3 ^ c.progs.length := q.few
    _ ≤ 1 * 3 ^ 3 := Nat.mul_le_mul_left 1 (Nat.pow_le_pow_right (by decide) h3)
    _ = 27 := rfl
theorem m_served_ok {c : CPlan} (hc : ChainOk c) {cs : List Plc} {ms : List Msg} (hp : PlacesOk c cs) (hm : ∀ p, c.progs.head? = some p → ∀ m ∈ ms, m.1 ∈ p.names) (l1 : 1 ≤ ms.length) (l2 : ms.length ≤ 40) {bd md : D} {bs ds : List D} (hb : IsRow bd bs) (rb : All2 PlaceRow bs cs) (hd : IsRow md ds) (rm : All2 MsgRow ds ms)
    {X : List (List Part)} (h : PossDeed c (numsOf cs ms).length ms.length X) {d : D} {xs : List D} (hx : IsRow d xs) (rx : All2 StepRow xs X) : m_served [chainD c, bd, md, d] = .ok (.frl ((mapX (back (numsOf cs ms)) X).map stepD)) := by
  obtain ⟨p, hp0⟩ := first_prog hc
  have hk := kept_len hc hp
  have hl := msgs_len (ms := ms) hk l2
  have hcl := cls_ok hp hm l1 l2
  have hkc := kept_len hc hcl.pl
  have hlc := msgs_len (ms := clsM cs ms) hkc hcl.l2
  have hn : (numsOf (clsC cs ms) (clsM cs ms)).length = (numsOf cs ms).length := by rw [nums_cls, List.length_map, List.length_range]
  have h' : PossDeed c (numsOf (clsC cs ms) (clsM cs ms)).length (clsM cs ms).length X := by
    rw [hn, List.length_map]; exact h
  unfold m_served
  walk_at "mir"
  rw [m_class_ok hc hp0 hp hb rb hd rm (hm p (head_at.mpr hp0)) l1 l2]
  walk_at "mir"
  rw [show m_demand_deed [chainD c, classD cs ms, d] = .ok (.val .non) from by
    unfold m_demand_deed
    walk_at "mir"
    rw [class_cl, m_isdeed hc (v := clD (clsC cs ms) (clsM cs ms)) (.inr rfl) (.inr rfl) (All2.self fun x _ => placeRow_tup x) (.inr rfl) (All2.self fun x _ => msgRow_tup x) hlc hcl.l2 h' hx rx]
    walk_at "mir"]
  walk_at "mir"
  rw [m_integers hb rb hd rm hl]
  walk_at "mir"
  rw [m_stepswith hx rx (fun rs hrs r hr => by
    obtain ⟨_, q⟩ := poss_short hc (h.2 rs hrs)
    obtain ⟨q1, q2, q3, q4, _⟩ := q r hr
    exact ⟨⟨fun n hn => others_back _ n (q1 n hn), fun x hx => others_back _ _ (q2 x hx)⟩, by omega, by omega⟩) (by rw [h.1]; omega) (fun rs hrs => by
    have := (poss_short hc (h.2 rs hrs)).1
    omega)]
  walk_at "mir"

end K09
namespace K09
open PySem PySem.Spec PyProof.Rows L2 DL
local macro_rules | `(tactic| walk_at "mir") => `(tactic| try simp (implicitDefEqProofs := false) only [runD, startE, endO, List.map_cons, List.map_nil, List.length_cons, List.length_nil, Nat.sub_self, Nat.reduceAdd, Nat.reduceSub, Nat.reduceMul, List.replicate, List.cons_append, List.nil_append, if_pos, R.bind_ok, R.of_some, R.map_ok, Option.bind_some, Option.map_some, withR_ok, seqO_nx, seqO_rt, List.set_cons_zero, List.set_cons_succ, List.getElem?_cons_zero, List.getElem?_cons_succ,
  eC, eOp, lOp, eCmp, bCmp, eNotInD, eUn, lUn, eIsi, eIsi2, eIf, eAnd, eOr, bAnd, bOr, bNot, bVal, eChain, bChain, pNone, pSome, lSl, eSlT, eSlR, aNil, aCons, eTup, lLst, eFz, eAttr, eCall, lCall, lLc, bYes, gsNil, gsCons, gT, iSeq, iR1, iR2, iZip2, iEnm, sNx, sSeq, sSet, sSetF, sSetFz, sAsg, sExpr, sRet, sRetF, sRetOwn, sRetN, sIf, sApp, sIns, sAug, sFor, sFrz, sFldM, sSetM, sPutD, eMelt, lMelt, eMake, eMakeD, sExt, eDc, eIxG, sRaise, sAppNew, eIsO, iZip3, lLcN, cNext,
  getD, getB, slotL, slotD, slotM, freeze, setD, rowOf_tup, rowOf_lst, Ret_v_val, Ret_v_frl, Ret_f_frl, oItems_lst, oItems_tup, oIx_lst, oIx_tup, oIx_scr, oLen_lst, oLen_tup, oLen_scr, cInt_int, oAdd_int, oSub_int, oInt_int, oTuple_lst, oTuple_tup, oList_lst, oList_tup, oBl_bl, oNot_bl, oSlL_lst, oSlL_scr, oSlT_tup, oSlR_tup, oSlR_lst, oI_int, oAttr_obj, at0, at1, at2, at3, at4, at5, oNeg_int, oRev_lst, Int.reduceNeg, oAug_int, oSlR_scr, cEq_int, oSeq_lst, oSeq_tup, lcItem, calm_ok, cElt, wipeE, if_true, if_false, Bool.false_eq_true, Bool.true_eq_false, Bool.not_true, Bool.not_false, reduceCtorEq, mkL_ok, oMod_int, oDiv_int, oMul_int, oPow_10_18, Int.reduceLT, Int.reduceLE, Int.reduceNeg, Int.reducePow, Nat.reduceLeDiff, Nat.reduceLT, and_self, true_or, or_true, and_true, true_and, Nat.zero_le, Int.zero_add])
local macro_rules | `(tactic| walk_at "mir*") => `(tactic| try simp (implicitDefEqProofs := false) only [runD, startE, endO, List.map_cons, List.map_nil, List.length_cons, List.length_nil, Nat.sub_self, Nat.reduceAdd, Nat.reduceSub, Nat.reduceMul, List.replicate, List.cons_append, List.nil_append, if_pos, R.bind_ok, R.of_some, R.map_ok, Option.bind_some, Option.map_some, withR_ok, seqO_nx, seqO_rt, List.set_cons_zero, List.set_cons_succ, List.getElem?_cons_zero, List.getElem?_cons_succ,
  eC, eOp, lOp, eCmp, bCmp, eNotInD, eUn, lUn, eIsi, eIsi2, eIf, eAnd, eOr, bAnd, bOr, bNot, bVal, eChain, bChain, pNone, pSome, lSl, eSlT, eSlR, aNil, aCons, eTup, lLst, eFz, eAttr, eCall, lCall, lLc, bYes, gsNil, gsCons, gT, iSeq, iR1, iR2, iZip2, iEnm, sNx, sSeq, sSet, sSetF, sSetFz, sAsg, sExpr, sRet, sRetF, sRetOwn, sRetN, sIf, sApp, sIns, sAug, sFor, sFrz, sFldM, sSetM, sPutD, eMelt, lMelt, eMake, eMakeD, sExt, eDc, eIxG, sRaise, sAppNew, eIsO, iZip3, lLcN, cNext,
  getD, getB, slotL, slotD, slotM, freeze, setD, rowOf_tup, rowOf_lst, Ret_v_val, Ret_v_frl, Ret_f_frl, oItems_lst, oItems_tup, oIx_lst, oIx_tup, oIx_scr, oLen_lst, oLen_tup, oLen_scr, cInt_int, oAdd_int, oSub_int, oInt_int, oTuple_lst, oTuple_tup, oList_lst, oList_tup, oBl_bl, oNot_bl, oSlL_lst, oSlL_scr, oSlT_tup, oSlR_tup, oSlR_lst, oI_int, oAttr_obj, at0, at1, at2, at3, at4, at5, oNeg_int, oRev_lst, Int.reduceNeg, oAug_int, oSlR_scr, cEq_int, oSeq_lst, oSeq_tup, lcItem, calm_ok, cElt, wipeE, if_true, if_false, Bool.false_eq_true, Bool.true_eq_false, Bool.not_true, Bool.not_false, reduceCtorEq, mkL_ok, oMod_int, oDiv_int, oMul_int, oPow_10_18, Int.reduceLT, Int.reduceLE, Int.reduceNeg, Int.reducePow, Nat.reduceLeDiff, Nat.reduceLT, and_self, true_or, or_true, and_true, true_and, Nat.zero_le, Int.zero_add, decide_true, decide_false, *])
/-! ### law_k09 -/
theorem eqd_X {X : List (List Part)} (h : ∀ rs ∈ X, ∀ r ∈ rs, ∀ o ∈ r.2, PyData.strOk o.1 = true ∧ PyData.strOk o.2.1 = true) : EqD 6 (.lst (X.map stepD)) := .lst fun d hd => by
  obtain ⟨rs, hrs, rfl⟩ := List.mem_map.mp hd
  refine .tup fun d hd => ?_
  obtain ⟨r, hr, rfl⟩ := List.mem_map.mp hd
  refine .tup fun d hd => ?_
  simp only [List.mem_cons, List.not_mem_nil, or_false] at hd
  rcases hd with rfl | rfl | rfl
  · exact .int _ _
  · exact .tup fun d hd => by obtain ⟨v, _, rfl⟩ := List.mem_map.mp hd; exact .int _ _
  · refine .tup fun d hd => ?_
    obtain ⟨o, ho, rfl⟩ := List.mem_map.mp hd
    refine .tup fun d hd => ?_
    have hs := h rs hrs r hr o ho
    simp only [List.mem_cons, List.not_mem_nil, or_false] at hd
    rcases hd with rfl | rfl | rfl
    · exact .str _ hs.1
    · exact .str _ hs.2
    · exact .int _ _
theorem words_X {c : CPlan} (hc : ChainOk c) {ranks n : Nat} {X : List (List Part)} (h : PossDeed c ranks n X) (f : Int → Int) : ∀ rs ∈ mapX f X, ∀ r ∈ rs, ∀ o ∈ r.2, PyData.strOk o.1 = true ∧ PyData.strOk o.2.1 = true := fun rs hrs r hr o ho => by
  obtain ⟨rs', h1, rfl⟩ := List.mem_map.mp hrs
  obtain ⟨r', h2, rfl⟩ := List.mem_map.mp hr
  obtain ⟨o', h3, rfl⟩ := List.mem_map.mp ho
  exact ((poss_short hc (h.2 rs' h1)).2 r' h2).2.2.2.2 o' h3
theorem map_id_X (X : List (List Part)) : mapX (fun n => n) X = X := by
  unfold mapX
  conv => rhs; rw [← List.map_id X]
  refine List.map_congr_left fun rs _ => ?_
  conv => rhs; rw [id, ← List.map_id rs]
  refine List.map_congr_left fun r _ => ?_
  obtain ⟨⟨a, b⟩, os⟩ := r
  show ((a, b.map fun n => n), os.map _) = ((a, b), os)
  rw [List.map_id']
  refine congrArg (Prod.mk (a, b)) ?_
  conv => rhs; rw [← List.map_id os]
  rfl
def outL (o : Out3) : D := .lst [.str o.1, .str o.2.1, .int o.2.2]
def partL (r : Part) : D := .lst [dN r.1.1, .lst (r.1.2.map .int), .lst (r.2.map outL)]
def stepL (rs : List Part) : D := .lst (rs.map partL)
theorem stepRow_lst (rs : List Part) : StepRow (stepL rs) rs := ⟨_, .inl rfl, All2.self fun r _ => ⟨_, _, _, .inl rfl, .inl rfl, .inl rfl, All2.self fun o _ => .inl rfl⟩⟩
def placeL (c : Plc) : D := .lst [dN c.1, .lst (c.2.map .int)]
def msgLs (m : Msg) : D := .lst [.str m.1, .int m.2]
theorem placeRow_lst (c : Plc) : PlaceRow (placeL c) c := ⟨_, .inl rfl, .inl rfl⟩
theorem msgRow_lst (m : Msg) : MsgRow (msgLs m) m := .inl rfl
theorem nested_ok {c : CPlan} (hc : ChainOk c) {ranks n : Nat} {X : List (List Part)} (h : PossDeed c ranks n X) (hn : n ≤ 5000) (a0 a1 a2 a3 a4 a5 a6 a7 a8 a9 a10 a11 a12 a13 a14 a15 : Option S) :
    lcF [12] (setD 12) bYes e_law_3 [a0, a1, a2, a3, a4, a5, a6, a7, a8, a9, a10, a11, a12, a13, a14, a15] (X.map stepD) = some (X.map stepL) := by
  refine lc_map stepD (f := stepL) (by have := h.1; omega) fun rs hrs => ?_
  obtain ⟨l1, q⟩ := poss_short hc (h.2 rs hrs)
  unfold lcItem e_law_3
  walk_at "mir"
  rw [lc_map partD (f := partL) (by omega) (fun r hr => by
    obtain ⟨_, _, l2, l3, _⟩ := q r hr
    unfold lcItem e_law_2
    walk_at "mir"
    rw [lc_map outD (f := outL) (by omega) (fun o ho => by
      unfold lcItem e_law_1
      walk_at "mir"
      rfl)]
    walk_at "mir"
    try rw [mkL_ok (by simp)]
    walk_at "mir"
    rfl)]
  walk_at "mir"
  rfl
theorem law_turn {c : CPlan} (hc : ChainOk c) {p : Prog} (hp : c.progs[0]? = some p) (ns : List Int) (cell : Int) (j4 j5 j6 j7 j8 j9 j10 j11 j12 j13 j14 j15 : Option S) : ∃ k4 k5 k6 k7 k8 k9 k10 k11 k12 k13 k14 k15,
    b_law_1 [some (.d (.scr ns)), some (.d (.lst (cplanD c))), some (.d (chainD c)), some (.d (.int cell)), j4, j5, j6, j7, j8, j9, j10, j11, j12, j13, j14, j15] = some (.nx [some (.d (.scr ns)), some (.d (.lst (cplanD c))), some (.d (chainD c)), some (.d (.int cell)), k4, k5, k6, k7, k8, k9, k10, k11, k12, k13, k14, k15]) := by
  have pk := hc.ok p (List.mem_of_getElem? hp)
  obtain ⟨cs, h1, h2, e1⟩ := m_beginningB hc cell
  obtain ⟨n, hn⟩ : ∃ n : Nat, 1 + cell / 9 % 40 = (n : Int) := ⟨(1 + cell / 9 % 40).toNat, by omega⟩
  obtain ⟨ms, g1, g2, e2⟩ := m_inputB pk hp (cell / 3) n (by omega)
  have l1 : 1 ≤ ms.length := by omega
  have l2 : ms.length ≤ 40 := by omega
  have l3 := (places_short hc h1).1
  have hk := kept_len hc h1
  have hlen := msgs_len (ms := ms) hk l2
  have hnm : ∀ q, c.progs.head? = some q → ∀ m ∈ ms, m.1 ∈ q.names := fun q e m hm => by
    rw [head_at, hp] at e
    cases e
    exact (g1 m hm).1
  have hnm0 : ∀ m ∈ ms, m.1 ∈ p.names := fun m hm => (g1 m hm).1
  have rB : IsRow (.tup (cs.map placeD)) (cs.map placeD) := .inr rfl
  have aB : All2 PlaceRow (cs.map placeD) cs := All2.self fun x _ => placeRow_tup x
  have rM : IsRow (.lst (ms.map msgD)) (ms.map msgD) := .inl rfl
  have aM : All2 MsgRow (ms.map msgD) ms := All2.self fun x _ => msgRow_tup x
  have rBl : IsRow (.lst (cs.map placeL)) (cs.map placeL) := .inl rfl
  have aBl : All2 PlaceRow (cs.map placeL) cs := All2.self fun x _ => placeRow_lst x
  have rMl : IsRow (.lst (ms.map msgLs)) (ms.map msgLs) := .inl rfl
  have aMl : All2 MsgRow (ms.map msgLs) ms := All2.self fun x _ => msgRow_lst x
  have ec := m_class_ok hc hp h1 rB aB rM aM hnm0 l1 l2
  rw [class_cl] at ec
  have ck := cls_ok h1 hnm l1 l2
  have rC : IsRow (clD (clsC cs ms) (clsM cs ms)) [.tup ((clsC cs ms).map placeD), .tup ((clsM cs ms).map msgD)] := .inr rfl
  have aC : All2 PlaceRow ((clsC cs ms).map placeD) (clsC cs ms) := All2.self fun x _ => placeRow_tup x
  have aD : All2 MsgRow ((clsM cs ms).map msgD) (clsM cs ms) := All2.self fun x _ => msgRow_tup x
  have hlc := msgs_len (ms := clsM cs ms) (kept_len hc ck.pl) ck.l2
  obtain ⟨d1, d2, d3⟩ := deed_class (cs := cs) (ms := ms) hc ck.pl hnm
  generalize eX : c.deedC (clsC cs ms) (clsM cs ms) = X at d1 d2
  have ed := m_deedof hc ck rC (.inr rfl) aC (.inr rfl) aD
  rw [eX] at ed
  have edl := m_deedof hc ck (v := .lst [.lst ((clsC cs ms).map placeD), .lst ((clsM cs ms).map msgD)]) (.inl rfl) (.inl rfl) aC (.inl rfl) aD
  rw [eX] at edl
  have ld1 := m_lawdeed hc ck.pl ck.nm (by have := ck.l2; omega) (d := .tup ((clsM cs ms).map msgD)) (.inr rfl)
  rw [eX] at ld1
  have ld2 := m_lawdeed hc h1 hnm (by omega) (d := .lst (ms.map msgD)) (.inl rfl)
  have hnn : (numsOf (clsC cs ms) (clsM cs ms)).length = (numsOf cs ms).length := by rw [nums_cls, List.length_map, List.length_range]
  have d2' : PossDeed c (numsOf (clsC cs ms) (clsM cs ms)).length (clsM cs ms).length X := by
    rw [hnn, List.length_map]; exact d2
  have i1 := m_isdeed hc rC (.inr rfl) aC (.inr rfl) aD hlc ck.l2 d2' (d := .lst (X.map stepD)) (.inl rfl) (All2.self fun x _ => stepRow_tup x)
  have i2 := m_isdeed hc rC (.inr rfl) aC (.inr rfl) aD hlc ck.l2 d2' (d := .lst (X.map stepL)) (.inl rfl) (All2.self fun x _ => stepRow_lst x)
  have s1 := m_served_ok hc h1 hnm l1 l2 rB aB rM aM d2 (d := .lst (X.map stepL)) (.inl rfl) (All2.self fun x _ => stepRow_lst x)
  have s2 := m_served_ok hc h1 hnm l1 l2 rB aB rM aM d2 (d := .lst (X.map stepD)) (.inl rfl) (All2.self fun x _ => stepRow_tup x)
  have s3 := m_served_ok hc h1 hnm l1 l2 rBl aBl rMl aMl d2 (d := .tup (X.map stepD)) (.inr rfl) (All2.self fun x _ => stepRow_tup x)
  rw [← d1] at s1 s2 s3
  have df := m_deedfrom hc h1 rB aB rM aM hnm (by omega)
  have wX := words_X hc d2 (fun n => n)
  rw [map_id_X] at wX
  have n1 : cNe (.lst (X.map stepD)) (.lst (X.map stepD)) = some false := cNe_self ((eqd_X wX).mono (by decide))
  have n2 : cNe (.lst ((c.deedC cs ms).map stepD)) (.lst ((c.deedC cs ms).map stepD)) = some false := by
    rw [d1]
    exact cNe_self ((eqd_X (words_X hc d2 _)).mono (by decide))
  have nb : cNotB (.bl true) (.bl true) = some false := rfl
  have q0 : oIx (clD (clsC cs ms) (clsM cs ms)) (.int 0) = some (.tup ((clsC cs ms).map placeD)) := atI_ofNat _ 0
  have q1 : oIx (clD (clsC cs ms) (clsM cs ms)) (.int 1) = some (.tup ((clsM cs ms).map msgD)) := atI_ofNat _ 1
  have lP : ∀ (a0 a1 a2 a3 a4 a5 a6 a7 a8 a9 a10 a11 a12 a13 a14 a15 : Option S), lcF [14] (setD 14) bYes e_law_4 [a0, a1, a2, a3, a4, a5, a6, a7, a8, a9, a10, a11, a12, a13, a14, a15] (cs.map placeD) = some (cs.map placeL) := fun a0 a1 a2 a3 a4 a5 a6 a7 a8 a9 a10 a11 a12 a13 a14 a15 => lc_map placeD (f := placeL) (by omega) fun x hx => by
    unfold lcItem e_law_4
    walk_at "mir"
    try rw [mkL_ok (by simp)]
    walk_at "mir"
    rfl
  have lM : ∀ (a0 a1 a2 a3 a4 a5 a6 a7 a8 a9 a10 a11 a12 a13 a14 a15 : Option S), lcF [13] (setD 13) bYes e_law_5 [a0, a1, a2, a3, a4, a5, a6, a7, a8, a9, a10, a11, a12, a13, a14, a15] (ms.map msgD) = some (ms.map msgLs) := fun a0 a1 a2 a3 a4 a5 a6 a7 a8 a9 a10 a11 a12 a13 a14 a15 => lc_map msgD (f := msgLs) (by omega) fun x hx => by
    unfold lcItem e_law_5
    walk_at "mir"
    rfl
  have lX : X.length < 16777216 := by have := d2.1; omega
  have nst := nested_ok hc d2 (by omega)
  generalize eY : (c.deedC cs ms).map stepD = Y at ld2 s1 s2 s3 df n2
  generalize eZ : X.map stepD = Z at ed edl ld1 i1 n1 nst s2 s3 ⊢
  generalize eZl : X.map stepL = Zl at i2 s1 nst
  have hZ : Z.length < 16777216 := by rw [← eZ, List.length_map]; exact lX
  have rd : ∀ A B : D, oIx (.lst [A, B]) (.int 0) = some A := fun A B => atI_ofNat _ 0
  have rd1 : ∀ A B : D, oIx (.lst [A, B]) (.int 1) = some B := fun A B => atI_ofNat _ 1
  unfold b_law_1
  walk_at "mir"
  rw [e1]
  walk_at "mir"
  rw [hn, e2]
  walk_at "mir"
  rw [ec]
  walk_at "mir"
  rw [ed]
  walk_at "mir"
  rw [q0]
  walk_at "mir"
  rw [q1]
  walk_at "mir"
  rw [ld1]
  walk_at "mir"
  try rw [rd]
  walk_at "mir"
  rw [n1]
  walk_at "mir"
  rw [i1]
  walk_at "mir"
  rw [nb]
  walk_at "mir"
  try rw [ed]
  walk_at "mir"
  rw [if_pos hZ]
  walk_at "mir"
  try rw [ed]
  walk_at "mir"
  rw [n1]
  walk_at "mir"
  rw [nst]
  walk_at "mir"
  rw [s1]
  walk_at "mir"
  rw [ld2]
  walk_at "mir"
  try rw [rd]
  walk_at "mir"
  rw [n2]
  walk_at "mir"
  rw [i2]
  walk_at "mir"
  rw [nb]
  walk_at "mir"
  rw [s2]
  walk_at "mir"
  rw [isList_lst]
  walk_at "mir"
  rw [df]
  walk_at "mir"
  rw [n2]
  walk_at "mir"
  rw [n1]
  walk_at "mir"
  try rw [ld2]
  walk_at "mir"
  try rw [rd]
  walk_at "mir"
  rw [n2]
  walk_at "mir"
  rw [lP]
  walk_at "mir"
  rw [lM]
  walk_at "mir"
  try rw [mkL_ok (by simp)]
  walk_at "mir"
  try rw [rd]
  walk_at "mir"
  try rw [rd1]
  walk_at "mir"
  rw [s3]
  walk_at "mir"
  rw [n2]
  walk_at "mir"
  try rw [q0]
  walk_at "mir"
  try rw [q1]
  walk_at "mir"
  try rw [mkL_ok (by simp)]
  walk_at "mir"
  rw [edl]
  walk_at "mir"
  rw [n1]
  walk_at "mir"
  exact ⟨_, _, _, _, _, _, _, _, _, _, _, _, rfl⟩
theorem law_math (ns : List Int) (hl : ns.length ≤ 63) : m_law [.scr ns] = .ok (.val (.bl true)) := by
  obtain ⟨c, hc, e⟩ := m_plan ns
  have ech := m_lawchain hc
  have c3 : m__law_cell [.scr ns, .int 3] = _ := m_cell ns 3
  have c4 : m__law_cell [.scr ns, .int 4] = _ := m_cell ns 4
  obtain ⟨p, hp⟩ := first_prog hc
  have ec : cut ns (some 5) (some 11) = (ns.drop 5).take 6 := cut_mid ns 5 11
  unfold m_law
  walk_at "mir"
  rw [e]
  walk_at "mir"
  rw [ech]
  walk_at "mir"
  rw [c3]
  walk_at "mir"
  rw [c4]
  walk_at "mir"
  try rw [mkL_ok (by simp)]
  walk_at "mir"
  rw [ec, catD (by simp; omega)]
  walk_at "mir"
  rw [show D.int (cellI ns 3) :: D.int (cellI ns 4) :: ((ns.drop 5).take 6).map D.int = (cellI ns 3 :: cellI ns 4 :: (ns.drop 5).take 6).map D.int from rfl]
  obtain ⟨⟨j3, j4, j5, j6, j7, j8, j9, j10, j11, j12, j13, j14, j15⟩, e2, _⟩ := for_map (gt := setD 3) (g := b_law_1) D.int
    (fun (s : Option S × Option S × Option S × Option S × Option S × Option S × Option S × Option S × Option S × Option S × Option S × Option S × Option S) => [some (.d (.scr ns)), some (.d (.lst (cplanD c))), some (.d (chainD c)), s.1, s.2.1, s.2.2.1, s.2.2.2.1, s.2.2.2.2.1, s.2.2.2.2.2.1, s.2.2.2.2.2.2.1, s.2.2.2.2.2.2.2.1, s.2.2.2.2.2.2.2.2.1, s.2.2.2.2.2.2.2.2.2.1, s.2.2.2.2.2.2.2.2.2.2.1, s.2.2.2.2.2.2.2.2.2.2.2.1, s.2.2.2.2.2.2.2.2.2.2.2.2])
    (fun _ _ => True) (cellI ns 3 :: cellI ns 4 :: (ns.drop 5).take 6) (none, none, none, none, none, none, none, none, none, none, none, none, none) trivial (by
    intro pre x post s hx _
    obtain ⟨j3, j4, j5, j6, j7, j8, j9, j10, j11, j12, j13, j14, j15⟩ := s
    obtain ⟨k4, k5, k6, k7, k8, k9, k10, k11, k12, k13, k14, k15, e3⟩ := law_turn hc hp ns x j4 j5 j6 j7 j8 j9 j10 j11 j12 j13 j14 j15
    exact ⟨_, (some (.d (.int x)), k4, k5, k6, k7, k8, k9, k10, k11, k12, k13, k14, k15), rfl, .inl e3, trivial⟩)
  rw [e2]
  walk_at "mir"

end K09
theorem PySem.Challenge.cw_piecetold_k09_whole_one_deed_for_all_holds : PySem.Challenge.rw_piecetold_k09_whole_one_deed_for_all.Holds := by
  exact K09_of K09.law_math
