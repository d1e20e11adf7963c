import PyProof.Rows.All
import Wide.All
import OpenK.AllK
import Wide.FinOn
import HandS.ForMost
import HandS.ForExc
import HandS.Evl
import HandS.FStr
import HandS.RaiseMore
import HandS.ExcIs
import HandS.Style
import HandS.ExcCtx
import HandS.SuiteRaise
import HandS.Walk
import HandS.DictComp
import HandS.Small
import HandS.More
import HandS.Conv
import HandS.Flow
import HandS.Records
import HandS.NoneIn
import HandS.ExcInit
import HandS.ExcField
import HandS.ClsMeth
import HandS.IsInst
import HandS.HotCalls
import HandS.ExcInitHot
import PySem.Challenge.RW_cellguard_k01_trees_of_areas
set_option Elab.async false
set_option linter.all false
set_option maxRecDepth 100000
set_option maxHeartbeats 4000000
/-! A logic of slots: what each name of a frame holds, as data (im) or as a list of its own (ow). -/
namespace Lg
open PySem L2 Evl

/-- how data of a type is told at an address -/
structure Rl (α : Type) where
  r : Hp → V → α → Prop
  m : ∀ {H H' : Hp} {v : V} {a : α}, Ex H H' → r H v a → r H' v a

/-- item by item -/
inductive All2 {α : Type} (p : V → α → Prop) : List V → List α → Prop
  | nil : All2 p [] []
  | cons {v : V} {a : α} {vs : List V} {as : List α} : p v a → All2 p vs as → All2 p (v :: vs) (a :: as)
theorem All2.imp {α : Type} {p q : V → α → Prop} (h : ∀ v a, p v a → q v a) : ∀ {vs as}, All2 p vs as → All2 q vs as
  | _, _, .nil => .nil
  | _, _, .cons x t => .cons (h _ _ x) (t.imp h)
theorem All2.len {α : Type} {p : V → α → Prop} : ∀ {vs as}, All2 p vs as → vs.length = as.length
  | _, _, .nil => rfl
  | _, _, .cons _ t => by simp [t.len]
theorem All2.app {α : Type} {p : V → α → Prop} : ∀ {vs as ws bs}, All2 p vs as → All2 p ws bs → All2 p (vs ++ ws) (as ++ bs)
  | _, _, _, _, .nil, t => t
  | _, _, _, _, .cons x s, t => .cons x (s.app t)
theorem All2.get {α : Type} {p : V → α → Prop} : ∀ {vs as} {i : Nat} {a : α}, All2 p vs as → as[i]? = some a → ∃ v, vs[i]? = some v ∧ p v a
  | _, _, _, _, .nil, h => by simp at h
  | _, _, 0, a, .cons x _, h => by simp at h; subst h; exact ⟨_, rfl, x⟩
  | _, _, i + 1, a, .cons _ t, h => by
    obtain ⟨v, h1, h2⟩ := t.get (i := i) (a := a) (by simpa using h)
    exact ⟨v, by simpa using h1, h2⟩
theorem All2.getV {α : Type} {p : V → α → Prop} : ∀ {vs as} {i : Nat} {v : V}, All2 p vs as → vs[i]? = some v → ∃ a, as[i]? = some a ∧ p v a
  | _, _, _, _, .nil, h => by simp at h
  | _, _, 0, a, .cons x _, h => by simp at h; subst h; exact ⟨_, rfl, x⟩
  | _, _, i + 1, a, .cons _ t, h => by
    obtain ⟨v, h1, h2⟩ := t.getV (i := i) (v := a) (by simpa using h)
    exact ⟨v, by simpa using h1, h2⟩
theorem All2.set {α : Type} {p : V → α → Prop} {v : V} {a : α} (x : p v a) : ∀ {vs as} (i : Nat), All2 p vs as → All2 p (vs.set i v) (as.set i a)
  | _, _, _, .nil => .nil
  | _, _, 0, .cons _ t => .cons x t
  | _, _, i + 1, .cons y t => .cons y (All2.set x i t)
theorem All2.rep {α : Type} {p : V → α → Prop} {vs : List V} {as : List α} (h : All2 p vs as) : ∀ k : Nat, All2 p (List.replicate k vs).flatten (List.replicate k as).flatten
  | 0 => .nil
  | k + 1 => by
    rw [List.replicate_succ, List.replicate_succ, List.flatten_cons, List.flatten_cons]
    exact h.app (All2.rep h k)
theorem All2.drop {α : Type} {p : V → α → Prop} : ∀ {vs as} (n : Nat), All2 p vs as → All2 p (vs.drop n) (as.drop n)
  | _, _, 0, h => h
  | _, _, _ + 1, .nil => .nil
  | _, _, n + 1, .cons _ t => All2.drop n t
theorem All2.take {α : Type} {p : V → α → Prop} : ∀ {vs as} (n : Nat), All2 p vs as → All2 p (vs.take n) (as.take n)
  | _, _, 0, _ => .nil
  | _, _, _ + 1, .nil => .nil
  | _, _, n + 1, .cons x t => .cons x (All2.take n t)

/-! ### data -/
def rI : Rl Int := ⟨fun _ v i => v = .int i, fun _ h => h⟩
def rB : Rl Bool := ⟨fun _ v b => v = .bl b, fun _ h => h⟩
def rS : Rl Str := ⟨fun _ v x => v = .str x, fun _ h => h⟩
def rU : Rl Unit := ⟨fun _ v _ => v = .non, fun _ h => h⟩
/-- None or data -/
def rO {α : Type} (R : Rl α) : Rl (Option α) := ⟨fun H v o => match o with | none => v = .non | some a => R.r H v a, fun {H H' v a} e h => by
  cases a with
  | none => exact h
  | some a => exact R.m e h⟩
def rL {α : Type} (R : Rl α) : Rl (List α) :=
  ⟨fun H v as => ∃ p xs, v = .ref p ∧ H p = some (.lst xs) ∧ All2 (R.r H) xs as, fun {H H' v as} e ⟨p, xs, h1, h2, h3⟩ => ⟨p, xs, h1, e p _ h2, h3.imp fun _ _ => R.m e⟩⟩
/-- a tuple of items of one type -/
def rT {α : Type} (R : Rl α) : Rl (List α) :=
  ⟨fun H v as => ∃ p xs, v = .ref p ∧ H p = some (.tup xs) ∧ All2 (R.r H) xs as, fun {H H' v as} e ⟨p, xs, h1, h2, h3⟩ => ⟨p, xs, h1, e p _ h2, h3.imp fun _ _ => R.m e⟩⟩
/-- a list or a tuple: which -/
def rQ {α : Type} (R : Rl α) : Rl (Bool × List α) :=
  ⟨fun H v as => (as.1 = true → (rT R).r H v as.2) ∧ (as.1 = false → (rL R).r H v as.2), fun {H H' v as} e ⟨h1, h2⟩ => ⟨fun b => (rT R).m e (h1 b), fun b => (rL R).m e (h2 b)⟩⟩
/-- a pair, a triple -/
def rP {α β : Type} (R : Rl α) (S : Rl β) : Rl (α × β) :=
  ⟨fun H v c => ∃ p x y, v = .ref p ∧ H p = some (.tup [x, y]) ∧ R.r H x c.1 ∧ S.r H y c.2, fun {H H' v c} e ⟨p, x, y, h1, h2, h3, h4⟩ => ⟨p, x, y, h1, e p _ h2, R.m e h3, S.m e h4⟩⟩
def rP3 {α β γ : Type} (R : Rl α) (S : Rl β) (T : Rl γ) : Rl (α × β × γ) :=
  ⟨fun H v c => ∃ p x y z, v = .ref p ∧ H p = some (.tup [x, y, z]) ∧ R.r H x c.1 ∧ S.r H y c.2.1 ∧ T.r H z c.2.2, fun {H H' v c} e ⟨p, x, y, z, h1, h2, h3, h4, h5⟩ => ⟨p, x, y, z, h1, e p _ h2, R.m e h3, S.m e h4, T.m e h5⟩⟩
/-- the script -/
def rSc (K : PySem.W.Frag) : Rl (List Int) :=
  ⟨fun H v ns => ∃ p, v = .ref p ∧ SqL K H p (ns.map V.int), fun {H H' v as} e ⟨p, h1, h2⟩ => ⟨p, h1, ex_l e h2⟩⟩

/-! ### slots -/
structure Sl where
  P : Hp → Hp → V → List Addr → Prop
  m : ∀ {F F' H H' : Hp} {v : V} {l : List Addr}, Ex F F' → (∀ a ∈ l, H' a = H a) → P F H v l → P F' H' v l
  t : ∀ {F H : Hp} {v : V} {l : List Addr}, P F H v l → ∀ a ∈ l, H a ≠ none
  d : ∀ {F H : Hp} {v : V} {l : List Addr}, P F H v l → l.Nodup
/-- data, never changed -/
def im {α : Type} (R : Rl α) (a : α) : Sl where
  P := fun F _ v l => l = [] ∧ R.r F v a
  m := fun e _ h => ⟨h.1, R.m e h.2⟩
  t := fun h a ha => by rw [h.1] at ha; cases ha
  d := fun h => by rw [h.1]; exact List.nodup_nil
/-- a list of one's own -/
def ow {α : Type} (R : Rl α) (as : List α) : Sl where
  P := fun F H v l => ∃ p xs, v = .ref p ∧ l = [p] ∧ H p = some (.lst xs) ∧ All2 (R.r F) xs as
  m := fun e k ⟨p, xs, h1, h2, h3, h4⟩ => ⟨p, xs, h1, h2, by rw [k p (by rw [h2]; exact List.mem_singleton.mpr rfl)]; exact h3, h4.imp fun _ _ => R.m e⟩
  t := fun ⟨p, xs, h1, h2, h3, h4⟩ a ha => by
    rw [h2] at ha
    rw [List.mem_singleton.mp ha, h3]
    exact fun z => nomatch z
  d := fun ⟨p, xs, h1, h2, h3, h4⟩ => by rw [h2]; simp
/-- one value -/
def vx (w : V) : Sl where
  P := fun _ _ v l => l = [] ∧ v = w
  m := fun _ _ h => h
  t := fun h a ha => by rw [h.1] at ha; cases ha
  d := fun h => by rw [h.1]; exact List.nodup_nil

abbrev Ctx := List (Option Sl)
def SgL (F H : Hp) : Ctx → L2.St → List Addr → Prop
  | [], [], l => l = []
  | none :: Γ, _ :: σ, l => SgL F H Γ σ l
  | some s :: Γ, o :: σ, l => ∃ v l1 l2, o = some v ∧ l = l1 ++ l2 ∧ s.P F H v l1 ∧ SgL F H Γ σ l2
  | _, _, _ => False
structure Bs where
  F : Hp
  B : Hp
structure Gd (b : Bs) (F H : Hp) (l : List Addr) : Prop where
  ef : Ex b.F F
  eb : Ex b.B H
  e : Ex F H
  k : ∀ a, b.F a = none → b.B a ≠ none → F a = none
  nd : l.Nodup
  of : ∀ a ∈ l, F a = none
  ob : ∀ a ∈ l, b.B a = none
structure Gw (F H F' H' : Hp) : Prop where
  f : Ex F F'
  h : Ex H H'
  e : Ex F' H'
  k : ∀ a, F a = none → H a ≠ none → F' a = none
theorem ex_none {H H' : Hp} {a : Addr} (e : Ex H H') (h : H' a = none) : H a = none := fresh_back e h
theorem ex_some {H H' : Hp} {a : Addr} (e : Ex H H') (h : H a ≠ none) : H' a ≠ none := fun z => h (fresh_back e z)
theorem ex_eq {H H' : Hp} {a : Addr} (e : Ex H H') (h : H a ≠ none) : H' a = H a := by
  cases q : H a with
  | none => exact absurd q h
  | some o => exact e a o q
theorem Gw.refl {F H : Hp} (e : Ex F H) : Gw F H F H := ⟨Ex.refl F, Ex.refl H, e, fun _ h _ => h⟩
theorem Gw.trans {F H F1 H1 F2 H2 : Hp} (x : Gw F H F1 H1) (y : Gw F1 H1 F2 H2) : Gw F H F2 H2 :=
  ⟨x.f.trans y.f, x.h.trans y.h, y.e, fun a h1 h2 => y.k a (x.k a h1 h2) (ex_some x.h h2)⟩
theorem Gd.grow {b : Bs} {F H F' H' : Hp} {l : List Addr} (g : Gd b F H l) (t : ∀ a ∈ l, H a ≠ none) (w : Gw F H F' H') : Gd b F' H' l :=
  ⟨g.ef.trans w.f, g.eb.trans w.h, w.e, fun a h1 h2 => w.k a (g.k a h1 h2) (ex_some g.eb h2), g.nd, fun a ha => w.k a (g.of a ha) (t a ha), g.ob⟩
/-- a new object, told as data -/
theorem Gw.new {F H : Hp} {p : Addr} {o : HO} (e : Ex F H) (hp : H p = none) : Gw F H (upd F p o) (upd H p o) :=
  ⟨Ex.new (ex_none e hp), Ex.new hp, fun a u h => by
    by_cases q : a = p
    · subst q; rw [upd_same] at h ⊢; exact h
    · rw [upd_ne q] at h ⊢; exact e a u h, fun a h1 h2 => by
    rw [upd_ne (fun q => h2 (by rw [q]; exact hp))]; exact h1⟩
/-- a new object, one's own -/
theorem Gw.own {F H : Hp} {p : Addr} {o : HO} (e : Ex F H) (hp : H p = none) : Gw F H F (upd H p o) :=
  ⟨Ex.refl F, Ex.new hp, e.trans (Ex.new hp), fun _ h _ => h⟩

theorem SgL.t {F H : Hp} : ∀ {Γ : Ctx} {σ : L2.St} {l : List Addr}, SgL F H Γ σ l → ∀ a ∈ l, H a ≠ none
  | [], [], l, h, a, ha => by
    have h : l = [] := h
    rw [h] at ha; cases ha
  | [], _ :: _, _, h, _, _ => h.elim
  | _ :: _, [], _, h, _, _ => by cases ‹Option Sl› <;> exact h.elim
  | none :: Γ, _ :: σ, l, h, a, ha => SgL.t (Γ := Γ) (σ := σ) h a ha
  | some s :: Γ, o :: σ, l, h, a, ha => by
    obtain ⟨v, l1, l2, rfl, rfl, hs, hr⟩ := h
    rcases List.mem_append.mp ha with q | q
    · exact s.t hs a q
    · exact SgL.t hr a q
theorem SgL.m {F F' H H' : Hp} (e : Ex F F') : ∀ {Γ : Ctx} {σ : L2.St} {l : List Addr}, (∀ a ∈ l, H' a = H a) → SgL F H Γ σ l → SgL F' H' Γ σ l
  | [], [], _, _, h => h
  | [], _ :: _, _, _, h => h.elim
  | _ :: _, [], _, _, h => by cases ‹Option Sl› <;> exact h.elim
  | none :: Γ, _ :: σ, l, k, h => SgL.m (Γ := Γ) (σ := σ) e k h
  | some s :: Γ, o :: σ, l, k, h => by
    obtain ⟨v, l1, l2, rfl, rfl, hs, hr⟩ := h
    exact ⟨v, l1, l2, rfl, rfl, s.m e (fun a ha => k a (List.mem_append_left _ ha)) hs, SgL.m e (fun a ha => k a (List.mem_append_right _ ha)) hr⟩
theorem SgL.grow {F H F' H' : Hp} {Γ : Ctx} {σ : L2.St} {l : List Addr} (w : Gw F H F' H') (h : SgL F H Γ σ l) : SgL F' H' Γ σ l :=
  SgL.m w.f (fun a ha => ex_eq w.h (SgL.t h a ha)) h
/-- what the i-th slot holds -/
theorem SgL.get {F H : Hp} {s : Sl} : ∀ {Γ : Ctx} {σ : L2.St} {l : List Addr} {i : Nat}, SgL F H Γ σ l → Γ[i]? = some (some s) → ∃ v l1, σ[i]? = some (some v) ∧ s.P F H v l1 ∧ ∀ a ∈ l1, a ∈ l
  | [], _, _, _, _, h => by simp at h
  | _ :: _, [], _, _, h, _ => by cases ‹Option Sl› <;> exact h.elim
  | none :: Γ, _ :: σ, l, 0, _, h => by simp at h
  | none :: Γ, _ :: σ, l, i + 1, g, h => by
    have h : Γ[i]? = some (some s) := by simpa using h
    obtain ⟨v, l1, h1, h2, h3⟩ := SgL.get (Γ := Γ) (σ := σ) (l := l) (i := i) g h
    exact ⟨v, l1, by simpa using h1, h2, h3⟩
  | some s' :: Γ, o :: σ, l, 0, g, h => by
    obtain ⟨v, l1, l2, rfl, rfl, hs, _⟩ := g
    have e : s' = s := by simpa using h
    subst e
    exact ⟨v, l1, rfl, hs, fun a ha => List.mem_append_left _ ha⟩
  | some s' :: Γ, o :: σ, l, i + 1, g, h => by
    obtain ⟨v, l1, l2, rfl, rfl, _, hr⟩ := g
    have h : Γ[i]? = some (some s) := by simpa using h
    obtain ⟨v, l1', h1, h2, h3⟩ := SgL.get hr h
    exact ⟨v, l1', by simpa using h1, h2, fun a ha => List.mem_append_right _ (h3 a ha)⟩
/-- a slot is stored -/
theorem SgL.put {F H : Hp} {o' : Option Sl} {w : Option V} {l' : List Addr} (hs : match o' with | none => True | some s => ∃ v, w = some v ∧ s.P F H v l') (hd' : l'.Nodup) : ∀ {Γ : Ctx} {σ : L2.St} {l : List Addr} (i : Nat), SgL F H Γ σ l → l.Nodup → (∀ a ∈ l', a ∉ l) →
    ∃ l2, SgL F H (Γ.set i o') (σ.set i w) l2 ∧ l2.Nodup ∧ ∀ a ∈ l2, a ∈ l ∨ a ∈ l'
  | [], [], l, i, g, nd, _ => ⟨l, by simpa using g, nd, fun a ha => .inl ha⟩
  | [], _ :: _, _, _, g, _, _ => g.elim
  | _ :: _, [], _, _, g, _, _ => by cases ‹Option Sl› <;> exact g.elim
  | none :: Γ, o :: σ, l, 0, g, nd, dj => by
    cases o' with
    | none => exact ⟨l, g, nd, fun a ha => .inl ha⟩
    | some s =>
      obtain ⟨v, rfl, hs⟩ := hs
      exact ⟨l' ++ l, ⟨v, l', l, rfl, rfl, hs, g⟩, List.nodup_append.mpr ⟨hd', nd, fun a ha b hb e => dj a ha (e ▸ hb)⟩, fun a ha => (List.mem_append.mp ha).symm⟩
  | none :: Γ, o :: σ, l, i + 1, g, nd, dj => by
    obtain ⟨l2, h1, h2, h3⟩ := SgL.put hs hd' (Γ := Γ) (σ := σ) (l := l) i g nd dj
    exact ⟨l2, h1, h2, h3⟩
  | some s' :: Γ, o :: σ, l, 0, g, nd, dj => by
    obtain ⟨v, l1, l2, rfl, rfl, _, hr⟩ := g
    have nd2 := (List.nodup_append.mp nd).2.1
    cases o' with
    | none => exact ⟨l2, hr, nd2, fun a ha => .inl (List.mem_append_right _ ha)⟩
    | some s =>
      obtain ⟨v', rfl, hs⟩ := hs
      exact ⟨l' ++ l2, ⟨v', l', l2, rfl, rfl, hs, hr⟩, List.nodup_append.mpr ⟨hd', nd2, fun a ha b hb e => dj a ha (List.mem_append_right _ (e ▸ hb))⟩, fun a ha => by
        rcases List.mem_append.mp ha with q | q
        · exact .inr q
        · exact .inl (List.mem_append_right _ q)⟩
  | some s' :: Γ, o :: σ, l, i + 1, g, nd, dj => by
    obtain ⟨v, l1, l2, rfl, rfl, hv, hr⟩ := g
    obtain ⟨n1, n2, n3⟩ := List.nodup_append.mp nd
    obtain ⟨l3, h1, h2, h3⟩ := SgL.put hs hd' i hr n2 (fun a ha q => dj a ha (List.mem_append_right _ q))
    refine ⟨l1 ++ l3, ⟨v, l1, l3, rfl, rfl, hv, h1⟩, List.nodup_append.mpr ⟨n1, h2, fun a ha b hb e => ?_⟩, fun a ha => ?_⟩
    · subst e
      rcases h3 a hb with q | q
      · exact n3 a ha a q rfl
      · exact dj a q (List.mem_append_left _ ha)
    · rcases List.mem_append.mp ha with q | q
      · exact .inl (List.mem_append_left _ q)
      · rcases h3 a q with z | z
        · exact .inl (List.mem_append_right _ z)
        · exact .inr z
end Lg

namespace Lg
open PySem L2 Evl

theorem SgL.mod {F H : Hp} {s : Sl} : ∀ {Γ : Ctx} {σ : L2.St} {l : List Addr} {i : Nat}, SgL F H Γ σ l → l.Nodup → Γ[i]? = some (some s) → ∃ v l1, σ[i]? = some (some v) ∧ s.P F H v l1 ∧ (∀ a ∈ l1, a ∈ l) ∧
    ∀ (H' : Hp) (s' : Sl), (∀ a, a ∉ l1 → H' a = H a) → s'.P F H' v l1 → SgL F H' (Γ.set i (some s')) σ l
  | [], _, _, _, _, _, h => by simp at h
  | _ :: _, [], _, _, h, _, _ => by cases ‹Option Sl› <;> exact h.elim
  | none :: Γ, _ :: σ, l, 0, _, _, h => by simp at h
  | none :: Γ, _ :: σ, l, i + 1, g, nd, h => by
    have h : Γ[i]? = some (some s) := by simpa using h
    obtain ⟨v, l1, h1, h2, h3, h4⟩ := SgL.mod (Γ := Γ) (σ := σ) (l := l) (i := i) g nd h
    exact ⟨v, l1, by simpa using h1, h2, h3, h4⟩
  | some s' :: Γ, o :: σ, l, 0, g, nd, h => by
    obtain ⟨v, l1, l2, rfl, rfl, hs, hr⟩ := g
    have e : s' = s := by simpa using h
    subst e
    refine ⟨v, l1, rfl, hs, fun a ha => List.mem_append_left _ ha, fun H' s' k hs' => ⟨v, l1, l2, rfl, rfl, hs', SgL.m (Ex.refl F) (fun a ha => k a fun q => ?_) hr⟩⟩
    exact (List.nodup_append.mp nd).2.2 a q a ha rfl
  | some s' :: Γ, o :: σ, l, i + 1, g, nd, h => by
    obtain ⟨v, l1, l2, rfl, rfl, hs, hr⟩ := g
    have h : Γ[i]? = some (some s) := by simpa using h
    obtain ⟨n1, n2, n3⟩ := List.nodup_append.mp nd
    obtain ⟨v', l1', h1, h2, h3, h4⟩ := SgL.mod hr n2 h
    refine ⟨v', l1', by simpa using h1, h2, fun a ha => List.mem_append_right _ (h3 a ha), fun H' s'' k hs'' => ⟨v, l1, l2, rfl, rfl, ?_, h4 H' s'' k hs''⟩⟩
    exact s'.m (Ex.refl F) (fun a ha => k a fun q => n3 a ha a (h3 a q) rfl) hs
/-- a slot's own objects become data -/
theorem SgL.frz {F H : Hp} {s : Sl} : ∀ {Γ : Ctx} {σ : L2.St} {l : List Addr} {i : Nat}, SgL F H Γ σ l → l.Nodup → Γ[i]? = some (some s) → ∃ v l1, σ[i]? = some (some v) ∧ s.P F H v l1 ∧ (∀ a ∈ l1, a ∈ l) ∧
    ∀ (F' : Hp) (s' : Sl), Ex F F' → s'.P F' H v [] → ∃ l2, SgL F' H (Γ.set i (some s')) σ l2 ∧ l2.Nodup ∧ ∀ a ∈ l2, a ∈ l ∧ a ∉ l1
  | [], _, _, _, _, _, h => by simp at h
  | _ :: _, [], _, _, h, _, _ => by cases ‹Option Sl› <;> exact h.elim
  | none :: Γ, _ :: σ, l, 0, _, _, h => by simp at h
  | none :: Γ, _ :: σ, l, i + 1, g, nd, h => by
    have h : Γ[i]? = some (some s) := by simpa using h
    obtain ⟨v, l1, h1, h2, h3, h4⟩ := SgL.frz (Γ := Γ) (σ := σ) (l := l) (i := i) g nd h
    exact ⟨v, l1, by simpa using h1, h2, h3, h4⟩
  | some s1 :: Γ, o :: σ, l, 0, g, nd, h => by
    obtain ⟨v, l1, l2, rfl, rfl, hs, hr⟩ := g
    have e1 : s1 = s := by simpa using h
    subst e1
    obtain ⟨n1, n2, n3⟩ := List.nodup_append.mp nd
    exact ⟨v, l1, rfl, hs, fun a ha => List.mem_append_left _ ha, fun F' s' e q => ⟨l2, ⟨v, [], l2, rfl, rfl, q, SgL.m e (fun _ _ => rfl) hr⟩, n2, fun a ha => ⟨List.mem_append_right _ ha, fun q => n3 a q a ha rfl⟩⟩⟩
  | some s1 :: Γ, o :: σ, l, i + 1, g, nd, h => by
    obtain ⟨v, l1, l2, rfl, rfl, hs, hr⟩ := g
    have h : Γ[i]? = some (some s) := by simpa using h
    obtain ⟨n1, n2, n3⟩ := List.nodup_append.mp nd
    obtain ⟨v', m1, h1, h2, h3, h4⟩ := SgL.frz hr n2 h
    refine ⟨v', m1, by simpa using h1, h2, fun a ha => List.mem_append_right _ (h3 a ha), fun F' s' e q => ?_⟩
    obtain ⟨m2, q1, q2, q3⟩ := h4 F' s' e q
    refine ⟨l1 ++ m2, ⟨v, l1, m2, rfl, rfl, s1.m e (fun _ _ => rfl) hs, q1⟩, List.nodup_append.mpr ⟨n1, q2, fun a ha b hb z => n3 a ha b (q3 b hb).1 z⟩, fun a ha => ?_⟩
    rcases List.mem_append.mp ha with z | z
    · exact ⟨List.mem_append_left _ z, fun q => n3 a z a (h3 a q) rfl⟩
    · exact ⟨List.mem_append_right _ (q3 a z).1, (q3 a z).2⟩

/-! ### judgements by the weakest precondition itself -/
def wE (X : Cx) (e : Expr) : TE := fun σ H Q => ∀ pins s, Inv X pins σ H s → wpAny (model X.prog X.w) X.A (eval e X.env) (EP X pins σ Q) X.xe s
def wT (X : Cx) (e : Expr) : TT := fun σ H Q => ∀ pins s, Inv X pins σ H s → wpAny (model X.prog X.w) X.A (isTrue e X.env (eval e X.env)) (TP X pins σ Q) X.xe s
def wS (X : Cx) (st : List Stmt) : TS := fun D σ H => ∀ pins s, Inv X pins σ H s → wpAny (model X.prog X.w) X.A (execs st X.env) (SP X pins D) X.xe s
theorem pe_w {X : Cx} {e : Expr} : PE X e (wE X e) := ⟨fun pins s _ _ _ I h => h pins s I⟩
theorem pt_w {X : Cx} {e : Expr} : PT X e (wT X e) := ⟨fun pins s _ _ _ I h => h pins s I⟩
theorem pss_w {X : Cx} {st : List Stmt} : PSs X st (wS X st) := ⟨fun pins s _ _ _ I h => h pins s I⟩
theorem wE.of {X : Cx} {e : Expr} {t : TE} {σ : L2.St} {H : Hp} {Q : VK} (h : PE X e t) (q : t σ H Q) : wE X e σ H Q := fun pins s I => h.run pins s σ H Q I q
theorem wT.of {X : Cx} {e : Expr} {t : TT} {σ : L2.St} {H : Hp} {Q : Bool → Hp → Prop} (h : PT X e t) (q : t σ H Q) : wT X e σ H Q := fun pins s I => h.run pins s σ H Q I q
theorem wS.of {X : Cx} {st : List Stmt} {t : TS} {σ : L2.St} {H : Hp} {D : Ends} (h : PSs X st t) (q : t D σ H) : wS X st D σ H := fun pins s I => h.run pins s σ H D I q

/-- te gives a value as s tells it; whatever is tracked stays -/
def EvS (b : Bs) (Γ : Ctx) (te : TE) (s : Sl) : Prop := ∀ σ F H l, SgL F H Γ σ l → Gd b F H l → ∀ Q : VK, (∀ v F' H' l', Gw F H F' H' → s.P F' H' v l' → (∀ a ∈ l', H a = none ∧ F' a = none) → Q v H') → te σ H Q
def TvS (b : Bs) (Γ : Ctx) (tt : TT) (c : Bool) : Prop := ∀ σ F H l, SgL F H Γ σ l → Gd b F H l → ∀ Q : Bool → Hp → Prop, (∀ F' H', Gw F H F' H' → Q c H') → tt σ H Q
/-- data alone, in a row -/
structure Im where
  α : Type
  R : Rl α
  a : α
def Im.sl (x : Im) : Sl := im x.R x.a
def mk {α : Type} (R : Rl α) (a : α) : Im := ⟨α, R, a⟩
inductive Ims (F : Hp) : List V → List Im → Prop
  | nil : Ims F [] []
  | cons {v : V} {x : Im} {vs : List V} {xs : List Im} : x.R.r F v x.a → Ims F vs xs → Ims F (v :: vs) (x :: xs)
theorem Ims.m {F F' : Hp} (e : Ex F F') : ∀ {vs xs}, Ims F vs xs → Ims F' vs xs
  | _, _, .nil => .nil
  | _, _, .cons h t => .cons (Rl.m _ e h) (t.m e)
theorem Ims.len {F : Hp} : ∀ {vs xs}, Ims F vs xs → vs.length = xs.length
  | _, _, .nil => rfl
  | _, _, .cons _ t => by simp [t.len]
def AvS (b : Bs) (Γ : Ctx) (ta : TA) (xs : List Im) : Prop := ∀ σ F H l, SgL F H Γ σ l → Gd b F H l → ∀ Q : List V → Hp → Prop, (∀ vs F' H', Gw F H F' H' → Ims F' vs xs → Q vs H') → ta σ H Q
def EV (X : Cx) (b : Bs) (Γ : Ctx) (e : Expr) (s : Sl) : Prop := EvS b Γ (wE X e) s
def TV (X : Cx) (b : Bs) (Γ : Ctx) (e : Expr) (c : Bool) : Prop := TvS b Γ (wT X e) c
/-- arguments -/
def AV (X : Cx) (b : Bs) (Γ : Ctx) (es : List Expr) (xs : List Im) : Prop := ∃ ta, PA X es ta ∧ AvS b Γ ta xs
section
variable {X : Cx} {b : Bs} {Γ : Ctx} {e e1 e2 : Expr} {s s1 s2 : Sl} {te ta tb : TE} {α β γ : Type} {R : Rl α} {S : Rl β} {T : Rl γ} {x : α} {y : β} {z : γ} {r : R2} {pos : Pos} {c c1 c2 : Bool} {K : PySem.W.Frag}
theorem EV.of (h : PE X e te) (k : EvS b Γ te s) : EV X b Γ e s := fun σ F H l g d Q q => wE.of h (k σ F H l g d Q q)
theorem TV.of {tt : TT} (h : PT X e tt) (k : TvS b Γ tt c) : TV X b Γ e c := fun σ F H l g d Q q => wT.of h (k σ F H l g d Q q)
theorem TV.cast (h : TV X b Γ e c1) (q : c1 = c2) : TV X b Γ e c2 := q ▸ h
theorem EV.cast {x' : α} (h : EV X b Γ e (im R x)) (q : x = x') : EV X b Γ e (im R x') := q ▸ h
theorem EV.to (h : EV X b Γ e (im R x)) (k : ∀ F v, R.r F v x → S.r F v y) : EV X b Γ e (im S y) := fun σ F H l g d Q q => h σ F H l g d Q fun v F' H' l' w p f => q v F' H' l' w ⟨p.1, k F' v p.2⟩ f
/-- an operation upon two values -/
theorem EvS.op2 (ha : EvS b Γ ta (im R x)) (hb : EvS b Γ tb (im S y)) (hr : ∀ F H v w, Ex F H → R.r F v x → S.r F w y → ∀ Q : VK, (∀ u F' H' l', Gw F H F' H' → s.P F' H' u l' → (∀ a ∈ l', H a = none ∧ F' a = none) → Q u H') → r v w H Q) : EvS b Γ (tOp r ta tb) s := fun σ F H l g d Q q =>
  ha σ F H l g d _ fun v F1 H1 l1 w1 p1 _ => hb σ F1 H1 l (g.grow w1) (d.grow g.t w1) _ fun u F2 H2 l2 w2 p2 _ =>
    hr F2 H2 v u w2.e (R.m w2.f p1.2) p2.2 Q fun z F3 H3 l3 w3 p3 f3 => q z F3 H3 l3 ((w1.trans w2).trans w3) p3 fun a ha => ⟨ex_none (w1.trans w2).h (f3 a ha).1, (f3 a ha).2⟩
/-- .. that makes nothing -/
theorem EvS.op2i (ha : EvS b Γ ta (im R x)) (hb : EvS b Γ tb (im S y)) (hr : ∀ F H v w, Ex F H → R.r F v x → S.r F w y → ∀ Q : VK, (∀ u, T.r F u z → Q u H) → r v w H Q) : EvS b Γ (tOp r ta tb) (im T z) :=
  EvS.op2 ha hb fun F H v w e h1 h2 Q q => hr F H v w e h1 h2 Q fun u hu => q u F H [] (Gw.refl e) ⟨rfl, hu⟩ fun _ h => nomatch h
theorem EvS.un {r : V → Hp → VK → Prop} (ha : EvS b Γ ta (im R x)) (hr : ∀ F H v, Ex F H → R.r F v x → ∀ Q : VK, (∀ u, T.r F u z → Q u H) → r v H Q) : EvS b Γ (tUn r ta) (im T z) := fun σ F H l g d Q q =>
  ha σ F H l g d _ fun v F1 H1 l1 w1 p1 _ => hr F1 H1 v w1.e p1.2 Q fun u hu => q u F1 H1 [] w1 ⟨rfl, hu⟩ fun _ h => nomatch h
theorem AV.nil : AV X b Γ [] [] := ⟨_, pa_nil, fun σ F H l g d Q q => q [] F H (Gw.refl d.e) .nil⟩
theorem AV.cons {es : List Expr} {xs : List Im} (h : EV X b Γ e (im R x)) (k : AV X b Γ es xs) (hs : starEach (e :: es) X.env = (false, eval e X.env) :: starEach es X.env := by rfl) : AV X b Γ (e :: es) (mk R x :: xs) := by
  obtain ⟨ta, h1, h2⟩ := k
  refine ⟨_, pa_cons pe_w h1 hs, fun σ F H l g d Q q => ?_⟩
  refine h σ F H l g d _ fun v F1 H1 l1 w1 p1 _ => ?_
  refine h2 σ F1 H1 l (g.grow w1) (d.grow g.t w1) _ fun vs F2 H2 w2 p2 => ?_
  exact q (v :: vs) F2 H2 (w1.trans w2) (.cons (R.m w2.f p1.2) p2)
end
end Lg

namespace Lg
open PySem L2 Evl
section
variable {X : Cx} {b : Bs} {Γ Γ' : Ctx} {e e1 e2 e3 : Expr} {s s1 s2 : Sl} {te ta tb : TE} {α β γ : Type} {R : Rl α} {S : Rl β} {T : Rl γ} {x : α} {y : β} {z : γ} {r : R2} {pos : Pos} {c c1 c2 c3 : Bool} {i j k : Int} {as : List α}
theorem no_l {l' : List Addr} {p : Addr → Prop} (h : l' = []) : ∀ a ∈ l', p a := fun a ha => by rw [h] at ha; cases ha
theorem EvS.mki (h : ∀ σ F H l, SgL F H Γ σ l → Gd b F H l → ∀ Q : VK, (∀ v F' H', Gw F H F' H' → R.r F' v x → Q v H') → te σ H Q) : EvS b Γ te (im R x) := fun σ F H l g d Q q => h σ F H l g d Q fun v F' H' w p => q v F' H' [] w ⟨rfl, p⟩ fun _ h => nomatch h
/-! names and constants -/
theorem EV.var {n : Str} (i : Nat) (h : Γ[i]? = some (some (im R x)) := by rfl) (hN : X.N[i]? = some n := by rfl) (hv : Vis X.env.scope n := by first | exact Or.inl rfl | exact Or.inr (Or.inl rfl) | exact Or.inr (Or.inr rfl)) (hd : (n == ("__debug__" : Str)) = false := by decide)
    (hcd : (n == ("__classdict__" : Str)) = false := by decide) : EV X b Γ (.Name n pos) (im R x) := EV.of (pe_var hN hv hd hcd) (EvS.mki fun σ F H l g d Q q => by
  obtain ⟨v, l1, h1, h2, _⟩ := g.get h
  exact ⟨v, h1, q v F H (Gw.refl d.e) h2.2⟩)
theorem EV.int {j : Nat} : EV X b Γ (.Constant (.int i) j pos) (im rI i) := EV.of pe_int (EvS.mki fun σ F H l g d Q q => q _ F H (Gw.refl d.e) rfl)
theorem EV.bl {j : Nat} : EV X b Γ (.Constant (.bool c) j pos) (im rB c) := EV.of pe_bl (EvS.mki fun σ F H l g d Q q => q _ F H (Gw.refl d.e) rfl)
theorem EV.str {z : Str} {j : Nat} : EV X b Γ (.Constant (.str z) j pos) (im rS z) := EV.of pe_str (EvS.mki fun σ F H l g d Q q => q _ F H (Gw.refl d.e) rfl)
theorem EV.non {j : Nat} : EV X b Γ (.Constant .none j pos) (im rU ()) := EV.of pe_non (EvS.mki fun σ F H l g d Q q => q _ F H (Gw.refl d.e) rfl)
theorem TvS.test (h : EvS b Γ te (im rB c)) : TvS b Γ (tTest te) c := fun σ F H l g d Q q => h σ F H l g d _ fun v F1 H1 l1 w p _ => ⟨c, p.2, q F1 H1 w⟩
theorem TvS.testB (h : EvS b Γ te (im rB c)) : TvS b Γ (tB te) c := fun σ F H l g d Q q => h σ F H l g d _ fun v F1 H1 l1 w p _ => ⟨c, p.2, q F1 H1 w⟩
/-! numbers -/
theorem EvS.ii {g : Int → Int → V} (ha : EvS b Γ ta (im rI i)) (hb : EvS b Γ tb (im rI j)) (hz : ∀ F, T.r F (g i j) z) : EvS b Γ (tOp (rI0 g) ta tb) (im T z) :=
  EvS.op2i ha hb fun F H v w _ h1 h2 Q q => ⟨i, j, h1, h2, q _ (hz F)⟩
theorem EvS.iic {C : Int → Int → Prop} {g : Int → Int → V} (ha : EvS b Γ ta (im rI i)) (hb : EvS b Γ tb (im rI j)) (hc : C i j) (hz : ∀ F, T.r F (g i j) z) : EvS b Γ (tOp (L2.rI C g) ta tb) (im T z) :=
  EvS.op2i ha hb fun F H v w _ h1 h2 Q q => ⟨i, j, h1, h2, hc, q _ (hz F)⟩
theorem EV.add (ha : EV X b Γ e1 (im rI i)) (hb : EV X b Γ e2 (im rI j)) : EV X b Γ (.BinOp e1 .Add e2 pos) (im rI (i + j)) := EV.of (pe_op op_add pe_w pe_w) (EvS.ii (T := rI) (z := (i + j)) ha hb fun _ => rfl)
theorem EV.sub (ha : EV X b Γ e1 (im rI i)) (hb : EV X b Γ e2 (im rI j)) : EV X b Γ (.BinOp e1 .Sub e2 pos) (im rI (i - j)) := EV.of (pe_op op_sub pe_w pe_w) (EvS.ii (T := rI) (z := (i - j)) ha hb fun _ => rfl)
theorem EV.mul (ha : EV X b Γ e1 (im rI i)) (hb : EV X b Γ e2 (im rI j)) (hc : CMul i j) : EV X b Γ (.BinOp e1 .Mult e2 pos) (im rI (i * j)) := EV.of (pe_op op_mul pe_w pe_w) (EvS.iic (T := rI) (z := (i * j)) ha hb hc fun _ => rfl)
theorem EV.fdiv (ha : EV X b Γ e1 (im rI i)) (hb : EV X b Γ e2 (im rI j)) (hc : CDiv i j) : EV X b Γ (.BinOp e1 .FloorDiv e2 pos) (im rI (i / j)) := EV.of (pe_op op_fdiv pe_w pe_w) (EvS.iic (T := rI) (z := (i / j)) ha hb hc fun _ => rfl)
theorem EV.mod (ha : EV X b Γ e1 (im rI i)) (hb : EV X b Γ e2 (im rI j)) (hc : 0 < j) : EV X b Γ (.BinOp e1 .Mod e2 pos) (im rI (i % j)) := EV.of (pe_op op_mod pe_w pe_w) (EvS.iic (T := rI) (z := (i % j)) ha hb hc fun _ => rfl)
theorem EV.shr (ha : EV X b Γ e1 (im rI i)) (hb : EV X b Γ e2 (im rI j)) (hc : 0 ≤ j) : EV X b Γ (.BinOp e1 .RShift e2 pos) (im rI (i / 2 ^ j.toNat)) := EV.of (pe_op op_shr pe_w pe_w) (EvS.iic (T := rI) (z := (i / 2 ^ j.toNat)) ha hb hc fun _ => rfl)
theorem EV.band (ha : EV X b Γ e1 (im rI i)) (hb : EV X b Γ e2 (im rI j)) : EV X b Γ (.BinOp e1 .BitAnd e2 pos) (im rI (Builtin.bitAnd i j)) := EV.of (pe_op op_and pe_w pe_w) (EvS.ii (T := rI) (z := (Builtin.bitAnd i j)) ha hb fun _ => rfl)
theorem EV.neg (ha : EV X b Γ e1 (im rI i)) : EV X b Γ (.UnaryOp .USub e1 pos) (im rI (-i)) := EV.of (pe_un un_neg pe_w) (EvS.un ha fun F H v _ h Q q => ⟨i, h, q _ rfl⟩)
/-! comparisons, as values -/
theorem EV.lt (ha : EV X b Γ e1 (im rI i)) (hb : EV X b Γ e2 (im rI j)) : EV X b Γ (.Compare e1 [.Lt] [e2] pos) (im rB (decide (i < j))) := EV.of (pe_cmpR op_lt pe_w pe_w (nomark _)) (EvS.ii (T := rB) (z := (decide (i < j))) ha hb fun _ => rfl)
theorem TV.lt (ha : EV X b Γ e1 (im rI i)) (hb : EV X b Γ e2 (im rI j)) : TV X b Γ (.Compare e1 [.Lt] [e2] pos) (decide (i < j)) := TV.of (pt_cmpR op_lt pe_w pe_w (nomark _)) (TvS.test (EvS.ii (T := rB) (z := (decide (i < j))) ha hb fun _ => rfl))
theorem EV.le (ha : EV X b Γ e1 (im rI i)) (hb : EV X b Γ e2 (im rI j)) : EV X b Γ (.Compare e1 [.LtE] [e2] pos) (im rB (decide (i ≤ j))) := EV.of (pe_cmpR op_le pe_w pe_w (nomark _)) (EvS.ii (T := rB) (z := (decide (i ≤ j))) ha hb fun _ => rfl)
theorem TV.le (ha : EV X b Γ e1 (im rI i)) (hb : EV X b Γ e2 (im rI j)) : TV X b Γ (.Compare e1 [.LtE] [e2] pos) (decide (i ≤ j)) := TV.of (pt_cmpR op_le pe_w pe_w (nomark _)) (TvS.test (EvS.ii (T := rB) (z := (decide (i ≤ j))) ha hb fun _ => rfl))
theorem EV.gt (ha : EV X b Γ e1 (im rI i)) (hb : EV X b Γ e2 (im rI j)) : EV X b Γ (.Compare e1 [.Gt] [e2] pos) (im rB (decide (j < i))) := EV.of (pe_cmpR op_gt pe_w pe_w (nomark _)) (EvS.ii (T := rB) (z := (decide (j < i))) ha hb fun _ => rfl)
theorem TV.gt (ha : EV X b Γ e1 (im rI i)) (hb : EV X b Γ e2 (im rI j)) : TV X b Γ (.Compare e1 [.Gt] [e2] pos) (decide (j < i)) := TV.of (pt_cmpR op_gt pe_w pe_w (nomark _)) (TvS.test (EvS.ii (T := rB) (z := (decide (j < i))) ha hb fun _ => rfl))
theorem EV.ge (ha : EV X b Γ e1 (im rI i)) (hb : EV X b Γ e2 (im rI j)) : EV X b Γ (.Compare e1 [.GtE] [e2] pos) (im rB (decide (j ≤ i))) := EV.of (pe_cmpR op_ge pe_w pe_w (nomark _)) (EvS.ii (T := rB) (z := (decide (j ≤ i))) ha hb fun _ => rfl)
theorem TV.ge (ha : EV X b Γ e1 (im rI i)) (hb : EV X b Γ e2 (im rI j)) : TV X b Γ (.Compare e1 [.GtE] [e2] pos) (decide (j ≤ i)) := TV.of (pt_cmpR op_ge pe_w pe_w (nomark _)) (TvS.test (EvS.ii (T := rB) (z := (decide (j ≤ i))) ha hb fun _ => rfl))
/-- == of flat values -/
theorem EV.eqv {v w : V} (ha : EV X b Γ e1 (im R x)) (hb : EV X b Γ e2 (im S y)) (hv : ∀ F u, R.r F u x → u = v) (hw : ∀ F u, S.r F u y → u = w) (hs : scal v w = true) : EV X b Γ (.Compare e1 [.Eq] [e2] pos) (im rB (decide (v = w))) :=
  EV.of (pe_cmpR op_eq pe_w pe_w (nomark _)) (EvS.op2i ha hb fun F H v' w' _ h1 h2 Q q => by rw [hv F _ h1, hw F _ h2]; exact ⟨hs, q _ rfl⟩)
theorem TV.eqv {v w : V} (ha : EV X b Γ e1 (im R x)) (hb : EV X b Γ e2 (im S y)) (hv : ∀ F u, R.r F u x → u = v) (hw : ∀ F u, S.r F u y → u = w) (hs : scal v w = true) : TV X b Γ (.Compare e1 [.Eq] [e2] pos) (decide (v = w)) :=
  TV.of (pt_cmpR op_eq pe_w pe_w (nomark _)) (TvS.test (EvS.op2i ha hb fun F H v' w' _ h1 h2 Q q => by rw [hv F _ h1, hw F _ h2]; exact ⟨hs, q _ rfl⟩))
theorem EV.nev {v w : V} (ha : EV X b Γ e1 (im R x)) (hb : EV X b Γ e2 (im S y)) (hv : ∀ F u, R.r F u x → u = v) (hw : ∀ F u, S.r F u y → u = w) (hs : scal v w = true) : EV X b Γ (.Compare e1 [.NotEq] [e2] pos) (im rB (!decide (v = w))) :=
  EV.of (pe_cmpR op_ne pe_w pe_w (nomark _)) (EvS.op2i ha hb fun F H v' w' _ h1 h2 Q q => by rw [hv F _ h1, hw F _ h2]; exact ⟨hs, q _ rfl⟩)
theorem TV.nev {v w : V} (ha : EV X b Γ e1 (im R x)) (hb : EV X b Γ e2 (im S y)) (hv : ∀ F u, R.r F u x → u = v) (hw : ∀ F u, S.r F u y → u = w) (hs : scal v w = true) : TV X b Γ (.Compare e1 [.NotEq] [e2] pos) (!decide (v = w)) :=
  TV.of (pt_cmpR op_ne pe_w pe_w (nomark _)) (TvS.test (EvS.op2i ha hb fun F H v' w' _ h1 h2 Q q => by rw [hv F _ h1, hw F _ h2]; exact ⟨hs, q _ rfl⟩))
theorem EV.eqI (ha : EV X b Γ e1 (im rI i)) (hb : EV X b Γ e2 (im rI j)) : EV X b Γ (.Compare e1 [.Eq] [e2] pos) (im rB (decide (i = j))) := (EV.eqv ha hb (v := .int i) (w := .int j) (fun _ _ h => h) (fun _ _ h => h) rfl).cast (by simp)
theorem EV.neI (ha : EV X b Γ e1 (im rI i)) (hb : EV X b Γ e2 (im rI j)) : EV X b Γ (.Compare e1 [.NotEq] [e2] pos) (im rB (!decide (i = j))) := (EV.nev ha hb (v := .int i) (w := .int j) (fun _ _ h => h) (fun _ _ h => h) rfl).cast (by simp)
theorem TV.eqI (ha : EV X b Γ e1 (im rI i)) (hb : EV X b Γ e2 (im rI j)) : TV X b Γ (.Compare e1 [.Eq] [e2] pos) (decide (i = j)) := (TV.eqv ha hb (v := .int i) (w := .int j) (fun _ _ h => h) (fun _ _ h => h) rfl).cast (by simp)
theorem TV.neI (ha : EV X b Γ e1 (im rI i)) (hb : EV X b Γ e2 (im rI j)) : TV X b Γ (.Compare e1 [.NotEq] [e2] pos) (!decide (i = j)) := (TV.nev ha hb (v := .int i) (w := .int j) (fun _ _ h => h) (fun _ _ h => h) rfl).cast (by simp)
/-! tests -/
theorem TV.val (h : EV X b Γ e (im rB c)) (he : ∀ whole, isTrue e X.env whole = (do let v ← whole; standAt e.pos; holding [v] (truthy v)) := by intro _; rfl) : TV X b Γ e c := TV.of (pt_val pe_w he) fun σ F H l g d Q q =>
  h σ F H l g d _ fun v F1 H1 l1 w p _ => ⟨c, p.2, q F1 H1 w⟩
theorem TvS.seq {tt tu : TT} {f : Bool → Bool} (h1 : TvS b Γ tt c1) (h2 : f c1 = true → TvS b Γ tu c2) : ∀ σ F H l, SgL F H Γ σ l → Gd b F H l → ∀ Q : Bool → Hp → Prop, (∀ F' H', Gw F H F' H' → Q (if f c1 = true then c2 else c1) H') → tt σ H fun c H1 => if f c = true then tu σ H1 Q else Q c H1 := fun σ F H l g d Q q =>
  h1 σ F H l g d _ fun F1 H1 w => by
    by_cases hf : f c1 = true
    · rw [if_pos hf]
      exact h2 hf σ F1 H1 l (g.grow w) (d.grow g.t w) Q fun F2 H2 w2 => by
        have := q F2 H2 (w.trans w2)
        rw [if_pos hf] at this
        exact this
    · rw [if_neg hf]
      have := q F1 H1 w
      rw [if_neg hf] at this
      exact this
theorem TvS.and {tt tu : TT} (h1 : TvS b Γ tt c1) (h2 : c1 = true → TvS b Γ tu c2) : TvS b Γ (tAnd tt tu) (c1 && c2) := fun σ F H l g d Q q =>
  h1 σ F H l g d _ fun F1 H1 w => by
    cases c1 with
    | true => exact h2 rfl σ F1 H1 l (g.grow w) (d.grow g.t w) Q fun F2 H2 w2 => q F2 H2 (w.trans w2)
    | false => exact q F1 H1 w
theorem TvS.or {tt tu : TT} (h1 : TvS b Γ tt c1) (h2 : c1 = false → TvS b Γ tu c2) : TvS b Γ (tOr tt tu) (c1 || c2) := fun σ F H l g d Q q =>
  h1 σ F H l g d _ fun F1 H1 w => by
    cases c1 with
    | true => exact q F1 H1 w
    | false => exact h2 rfl σ F1 H1 l (g.grow w) (d.grow g.t w) Q fun F2 H2 w2 => q F2 H2 (w.trans w2)
theorem TV.and (h1 : TV X b Γ e1 c1) (h2 : c1 = true → TV X b Γ e2 c2) : TV X b Γ (.BoolOp .And [e1, e2] pos) (c1 && c2) := TV.of (PW.pt (pw_and pt_w (pw_and1 pt_w))) (TvS.and h1 h2)
theorem TV.or (h1 : TV X b Γ e1 c1) (h2 : c1 = false → TV X b Γ e2 c2) : TV X b Γ (.BoolOp .Or [e1, e2] pos) (c1 || c2) := TV.of (PW.pt (pw_or pt_w (pw_or1 pt_w))) (TvS.or h1 h2)
theorem TV.and3 (h1 : TV X b Γ e1 c1) (h2 : c1 = true → TV X b Γ e2 c2) (h3 : c1 = true → c2 = true → TV X b Γ e3 c3) : TV X b Γ (.BoolOp .And [e1, e2, e3] pos) (c1 && (c2 && c3)) := TV.of (PW.pt (pw_and pt_w (pw_and pt_w (pw_and1 pt_w)))) (TvS.and h1 fun q => TvS.and (h2 q) (h3 q))
theorem TV.or3 (h1 : TV X b Γ e1 c1) (h2 : c1 = false → TV X b Γ e2 c2) (h3 : c1 = false → c2 = false → TV X b Γ e3 c3) : TV X b Γ (.BoolOp .Or [e1, e2, e3] pos) (c1 || (c2 || c3)) := TV.of (PW.pt (pw_or pt_w (pw_or pt_w (pw_or1 pt_w)))) (TvS.or h1 fun q => TvS.or (h2 q) (h3 q))
theorem TV.not (h1 : TV X b Γ e1 c1) : TV X b Γ (.UnaryOp .Not e1 pos) (!c1) := TV.of (pt_not pt_w) fun σ F H l g d Q q => h1 σ F H l g d _ fun F1 H1 w => q F1 H1 w
/-- a chain of two -/
theorem EvS.chain {r r' : R2} {tc : TE} (ha : EvS b Γ ta (im R x)) (hb : EvS b Γ tb (im S y)) (hc : c1 = true → EvS b Γ tc (im T z)) (h1 : ∀ F H v w, R.r F v x → S.r F w y → ∀ Q : VK, Q (.bl c1) H → r v w H Q)
    (h2 : ∀ F H v w, S.r F v y → T.r F w z → ∀ Q : VK, Q (.bl c2) H → r' v w H Q) : ∀ σ F H l, SgL F H Γ σ l → Gd b F H l → ∀ Q : VK, (∀ F' H', Gw F H F' H' → Q (.bl (c1 && c2)) H') → tChain r r' ta tb tc σ H Q := fun σ F H l g d Q q =>
  ha σ F H l g d _ fun v F1 H1 l1 w1 p1 _ => hb σ F1 H1 l (g.grow w1) (d.grow g.t w1) _ fun u F2 H2 l2 w2 p2 _ => h1 F2 H2 v u (R.m w2.f p1.2) p2.2 _ ⟨c1, rfl, by
    have w12 := w1.trans w2
    cases c1 with
    | true => exact hc rfl σ F2 H2 l (g.grow w12) (d.grow g.t w12) _ fun t F3 H3 l3 w3 p3 _ => h2 F3 H3 u t (S.m w3.f p2.2) p3.2 Q (q F3 H3 (w12.trans w3))
    | false => exact q F2 H2 w12⟩
theorem rIlt {F H : Hp} {v w : V} {Q : VK} {p : Int → Int → Bool} (h1 : rI.r F v i) (h2 : rI.r F w j) (q : Q (.bl (p i j)) H) : rI0 (fun i j => .bl (p i j)) v w H Q := ⟨i, j, h1, h2, q⟩
theorem EV.leLt (ha : EV X b Γ e1 (im rI i)) (hb : EV X b Γ e2 (im rI j)) (hc : EV X b Γ e3 (im rI k)) (hm : lastMarks [.LtE, .Lt] [e2, e3] = false := by rfl) : EV X b Γ (.Compare e1 [.LtE, .Lt] [e2, e3] pos) (im rB (decide (i ≤ j) && decide (j < k))) :=
  EV.of (pe_chain op_le op_lt pe_w pe_w pe_w (hm := hm)) (EvS.mki fun σ F H l g d Q q => EvS.chain (r := rI0 fun i j => .bl (decide (i ≤ j))) (r' := rI0 fun i j => .bl (decide (i < j))) ha hb (fun _ => hc) (fun F H v w h1 h2 Q q => rIlt (p := fun i j => decide (i ≤ j)) h1 h2 q) (fun F H v w h1 h2 Q q => rIlt (p := fun i j => decide (i < j)) h1 h2 q) σ F H l g d Q fun F' H' w => q _ F' H' w rfl)
theorem EV.leLe (ha : EV X b Γ e1 (im rI i)) (hb : EV X b Γ e2 (im rI j)) (hc : EV X b Γ e3 (im rI k)) (hm : lastMarks [.LtE, .LtE] [e2, e3] = false := by rfl) : EV X b Γ (.Compare e1 [.LtE, .LtE] [e2, e3] pos) (im rB (decide (i ≤ j) && decide (j ≤ k))) :=
  EV.of (pe_chain op_le op_le pe_w pe_w pe_w (hm := hm)) (EvS.mki fun σ F H l g d Q q => EvS.chain (r := rI0 fun i j => .bl (decide (i ≤ j))) (r' := rI0 fun i j => .bl (decide (i ≤ j))) ha hb (fun _ => hc) (fun F H v w h1 h2 Q q => rIlt (p := fun i j => decide (i ≤ j)) h1 h2 q) (fun F H v w h1 h2 Q q => rIlt (p := fun i j => decide (i ≤ j)) h1 h2 q) σ F H l g d Q fun F' H' w => q _ F' H' w rfl)
theorem TV.leLt (ha : EV X b Γ e1 (im rI i)) (hb : EV X b Γ e2 (im rI j)) (hc : EV X b Γ e3 (im rI k)) (hm : lastMarks [.LtE, .Lt] [e2, e3] = false := by rfl) : TV X b Γ (.Compare e1 [.LtE, .Lt] [e2, e3] pos) (decide (i ≤ j) && decide (j < k)) :=
  TV.of (pt_chain op_le op_lt pe_w pe_w pe_w (hm := hm)) fun σ F H l g d Q q => EvS.chain (r := rI0 fun i j => .bl (decide (i ≤ j))) (r' := rI0 fun i j => .bl (decide (i < j))) ha hb (fun _ => hc) (fun F H v w h1 h2 Q q => rIlt (p := fun i j => decide (i ≤ j)) h1 h2 q) (fun F H v w h1 h2 Q q => rIlt (p := fun i j => decide (i < j)) h1 h2 q) σ F H l g d _ fun F' H' w => ⟨_, rfl, q F' H' w⟩
theorem TV.leLe (ha : EV X b Γ e1 (im rI i)) (hb : EV X b Γ e2 (im rI j)) (hc : EV X b Γ e3 (im rI k)) (hm : lastMarks [.LtE, .LtE] [e2, e3] = false := by rfl) : TV X b Γ (.Compare e1 [.LtE, .LtE] [e2, e3] pos) (decide (i ≤ j) && decide (j ≤ k)) :=
  TV.of (pt_chain op_le op_le pe_w pe_w pe_w (hm := hm)) fun σ F H l g d Q q => EvS.chain (r := rI0 fun i j => .bl (decide (i ≤ j))) (r' := rI0 fun i j => .bl (decide (i ≤ j))) ha hb (fun _ => hc) (fun F H v w h1 h2 Q q => rIlt (p := fun i j => decide (i ≤ j)) h1 h2 q) (fun F H v w h1 h2 Q q => rIlt (p := fun i j => decide (i ≤ j)) h1 h2 q) σ F H l g d _ fun F' H' w => ⟨_, rfl, q F' H' w⟩
theorem EV.ife (h : TV X b Γ e1 c) (h1 : c = true → EV X b Γ e2 (im R x)) (h2 : c = false → EV X b Γ e3 (im R x)) : EV X b Γ (.IfExp e1 e2 e3 pos) (im R x) := EV.of (pe_ifExp pt_w pe_w pe_w) fun σ F H l g d Q q =>
  h σ F H l g d _ fun F1 H1 w => by
    have go := fun v F' H' l' (w' : Gw F1 H1 F' H') p (f : ∀ a ∈ l', H1 a = none ∧ F' a = none) => q v F' H' l' (w.trans w') p fun a ha => ⟨ex_none w.h (f a ha).1, (f a ha).2⟩
    cases c with
    | true => exact h1 rfl σ F1 H1 l (g.grow w) (d.grow g.t w) Q go
    | false => exact h2 rfl σ F1 H1 l (g.grow w) (d.grow g.t w) Q go
/-- a and b, a or b, not a as values -/
theorem EV.andV (h1 : EV X b Γ e1 (im rB c1)) (h2 : c1 = true → EV X b Γ e2 (im rB c2)) : EV X b Γ (.BoolOp .And [e1, e2] pos) (im rB (c1 && c2)) := EV.of (pe_and pe_w (pe_one pe_w)) (EvS.mki fun σ F H l g d Q q =>
  h1 σ F H l g d _ fun v F1 H1 l1 w p _ => ⟨c1, p.2, by
    cases c1 with
    | true => exact h2 rfl σ F1 H1 l (g.grow w) (d.grow g.t w) _ fun v F2 H2 l2 w2 p2 _ => q v F2 H2 (w.trans w2) p2.2
    | false => exact q _ F1 H1 w rfl⟩)
theorem EV.orV (h1 : EV X b Γ e1 (im rB c1)) (h2 : c1 = false → EV X b Γ e2 (im rB c2)) : EV X b Γ (.BoolOp .Or [e1, e2] pos) (im rB (c1 || c2)) := EV.of (pe_or pe_w (pe_one pe_w)) (EvS.mki fun σ F H l g d Q q =>
  h1 σ F H l g d _ fun v F1 H1 l1 w p _ => ⟨c1, p.2, by
    cases c1 with
    | true => exact q _ F1 H1 w rfl
    | false => exact h2 rfl σ F1 H1 l (g.grow w) (d.grow g.t w) _ fun v F2 H2 l2 w2 p2 _ => q v F2 H2 (w.trans w2) p2.2⟩)
theorem EV.notV (h1 : EV X b Γ e1 (im rB c1)) : EV X b Γ (.UnaryOp .Not e1 pos) (im rB (!c1)) := EV.of (pe_not pe_w) (EvS.mki fun σ F H l g d Q q =>
  h1 σ F H l g d _ fun v F1 H1 l1 w p _ => ⟨c1, p.2, q _ F1 H1 w rfl⟩)
/-! displays -/
theorem Ims.all {F : Hp} : ∀ {vs : List V} {as : List α}, Ims F vs (as.map (mk R)) → All2 (R.r F) vs as
  | _, [], h => by cases h; exact .nil
  | _, a :: as, h => by
    cases h with
    | cons h1 h2 => exact .cons h1 (Ims.all h2)
theorem EV.tup {es : List Expr} {xs : List Im} {k : Nat} (h : AV X b Γ es xs) (hx : xs = as.map (mk R)) (hl : as.length ≤ 1000) : EV X b Γ (.Tuple es k pos) (im (rT R) as) := by
  obtain ⟨ta, h1, h2⟩ := h
  refine EV.of (pe_tup h1) (EvS.mki fun σ F H l g d Q q => h2 σ F H l g d _ fun vs F1 H1 w p => ?_)
  rw [hx] at p
  have p := Ims.all p
  exact ⟨Nat.le_of_lt (small1000 (by rw [p.len]; exact hl)), fun a ha => q _ _ _ (w.trans (Gw.new w.e ha)) ⟨a, vs, rfl, upd_same, p.imp fun _ _ => R.m (Ex.new (ex_none w.e ha))⟩⟩
theorem EV.pair {es : List Expr} {k : Nat} (h : AV X b Γ es [mk R x, mk S y]) : EV X b Γ (.Tuple es k pos) (im (rP R S) (x, y)) := by
  obtain ⟨ta, k1, k2⟩ := h
  refine EV.of (pe_tup k1) (EvS.mki fun σ F H l g d Q q => k2 σ F H l g d _ fun vs F1 H1 w p => ?_)
  cases p with
  | cons p1 p =>
    cases p with
    | cons p2 p =>
      cases p
      exact ⟨Nat.le_of_lt (small1000 (show 2 ≤ 1000 by decide)), fun a ha => q _ _ _ (w.trans (Gw.new w.e ha)) ⟨a, _, _, rfl, upd_same, R.m (Ex.new (ex_none w.e ha)) p1, S.m (Ex.new (ex_none w.e ha)) p2⟩⟩
theorem EV.tri {es : List Expr} {k : Nat} (h : AV X b Γ es [mk R x, mk S y, mk T z]) : EV X b Γ (.Tuple es k pos) (im (rP3 R S T) (x, y, z)) := by
  obtain ⟨ta, k1, k2⟩ := h
  refine EV.of (pe_tup k1) (EvS.mki fun σ F H l g d Q q => k2 σ F H l g d _ fun vs F1 H1 w p => ?_)
  cases p with
  | cons p1 p =>
    cases p with
    | cons p2 p =>
      cases p with
      | cons p3 p =>
        cases p
        exact ⟨Nat.le_of_lt (small1000 (show 3 ≤ 1000 by decide)), fun a ha => q _ _ _ (w.trans (Gw.new w.e ha)) ⟨a, _, _, _, rfl, upd_same, R.m (Ex.new (ex_none w.e ha)) p1, S.m (Ex.new (ex_none w.e ha)) p2, T.m (Ex.new (ex_none w.e ha)) p3⟩⟩
theorem EV.lst {es : List Expr} {xs : List Im} (h : AV X b Γ es xs) (hx : xs = as.map (mk R)) (hl : as.length ≤ 1000) : EV X b Γ (.List es pos) (ow R as) := by
  obtain ⟨ta, h1, h2⟩ := h
  refine EV.of (pe_lst h1) fun σ F H l g d Q q => h2 σ F H l g d _ fun vs F1 H1 w p => ?_
  rw [hx] at p
  have p := Ims.all p
  exact ⟨Nat.le_of_lt (small1000 (by rw [p.len]; exact hl)), fun a ha => q _ _ _ [a] (w.trans (Gw.own w.e ha)) ⟨a, vs, rfl, rfl, upd_same, p⟩ fun c hc => by
    rw [List.mem_singleton.mp hc]; exact ⟨ex_none w.h ha, ex_none w.e ha⟩⟩
/-- one's own becomes data -/
theorem EV.fz (h : EV X b Γ e (ow R as)) : EV X b Γ e (im (rL R) as) := EvS.mki fun σ F H l g d Q q => h σ F H l g d Q fun v F' H' l' w ⟨p, xs, h1, h2, h3, h4⟩ f => by
  subst h1 h2
  obtain ⟨f1, f2⟩ := f p (List.mem_singleton.mpr rfl)
  refine q _ (upd F' p (.lst xs)) H' ⟨w.f.trans (Ex.new f2), w.h, fun a u ha => ?_, fun a h1 h2 => ?_⟩ ⟨p, xs, rfl, upd_same, h4.imp fun _ _ => R.m (Ex.new f2)⟩
  · by_cases z : a = p
    · subst z; rw [upd_same] at ha; rw [h3]; exact ha
    · rw [upd_ne z] at ha; exact w.e a u ha
  · rw [upd_ne (fun z => h2 (by rw [z]; exact f1))]; exact w.k a h1 h2
/-! reading lists, tuples -/
theorem atI_all {p : V → α → Prop} {xs : List V} {a : α} (h : All2 p xs as) (k : atI as i = some a) : ∃ v, atI xs i = some v ∧ p v a := by
  unfold atI at k ⊢
  rw [← h.len] at k
  cases e : ixN xs.length i with
  | none => rw [e] at k; cases k
  | some j =>
    rw [e] at k
    obtain ⟨v, h1, h2⟩ := h.get (i := j) k
    exact ⟨v, h1, h2⟩
theorem EV.ixL {a : α} (h : EV X b Γ e1 (im (rL R) as)) (hi : EV X b Γ e2 (im rI i)) (ha : atI as i = some a) (hs : PlainIx e2 := by exact (fun _ _ => rfl)) : EV X b Γ (.Subscript e1 e2 pos) (im R a) :=
  EV.of (pe_ix ix_list pe_w pe_w hs) (EvS.op2i h hi fun F H v w e ⟨p, xs, h1, h2, h3⟩ hw Q q => by
    obtain ⟨u, k1, k2⟩ := atI_all h3 ha
    exact ⟨p, xs, i, u, h1, hw, SqL.of (e p _ h2), k1, q u k2⟩)
theorem EV.ixT {a : α} (h : EV X b Γ e1 (im (rT R) as)) (hi : EV X b Γ e2 (im rI i)) (ha : atI as i = some a) (hs : PlainIx e2 := by exact (fun _ _ => rfl)) : EV X b Γ (.Subscript e1 e2 pos) (im R a) :=
  EV.of (pe_ix ix_tup pe_w pe_w hs) (EvS.op2i h hi fun F H v w e ⟨p, xs, h1, h2, h3⟩ hw Q q => by
    obtain ⟨u, k1, k2⟩ := atI_all h3 ha
    exact ⟨p, xs, i, u, h1, hw, SqT.of (e p _ h2), k1, q u k2⟩)
theorem EV.ixQ {a : α} {as : Bool × List α} (h : EV X b Γ e1 (im (rQ R) as)) (hi : EV X b Γ e2 (im rI i)) (ha : atI as.2 i = some a) (hs : PlainIx e2 := by exact (fun _ _ => rfl)) : EV X b Γ (.Subscript e1 e2 pos) (im R a) :=
  EV.of (pe_ix ix_seq pe_w pe_w hs) (EvS.op2i h hi fun F H v w e ⟨q1, q2⟩ hw Q q => by
    obtain ⟨t, as⟩ := as
    cases t with
    | true =>
      obtain ⟨p, xs, h1, h2, h3⟩ := q1 rfl
      obtain ⟨u, k1, k2⟩ := atI_all h3 ha
      exact .inr (.inl ⟨p, xs, i, u, h1, hw, SqT.of (e p _ h2), k1, q u k2⟩)
    | false =>
      obtain ⟨p, xs, h1, h2, h3⟩ := q2 rfl
      obtain ⟨u, k1, k2⟩ := atI_all h3 ha
      exact .inl ⟨p, xs, i, u, h1, hw, SqL.of (e p _ h2), k1, q u k2⟩)
theorem EV.ixSc {ns : List Int} {a : Int} (h : EV X b Γ e1 (im (rSc X.K) ns)) (hi : EV X b Γ e2 (im rI i)) (ha : atI ns i = some a) (hs : PlainIx e2 := by exact (fun _ _ => rfl)) : EV X b Γ (.Subscript e1 e2 pos) (im rI a) :=
  EV.of (pe_ix ix_list pe_w pe_w hs) (EvS.op2i h hi fun F H v w e ⟨p, h1, h2⟩ hw Q q => by
    have k : atI (ns.map V.int) i = some (.int a) := by
      unfold atI at ha ⊢
      rw [List.length_map]
      cases e : ixN ns.length i with
      | none => rw [e] at ha; cases ha
      | some j =>
        rw [e] at ha
        have ha : ns[j]? = some a := ha
        show (ns.map V.int)[j]? = _
        rw [List.getElem?_map, ha]; rfl
    exact ⟨p, _, i, _, h1, hw, ex_l e h2, k, q _ rfl⟩)
theorem EV.ixP0 {p2 : Pos} {k : Nat} (h : EV X b Γ e1 (im (rP R S) (x, y))) : EV X b Γ (.Subscript e1 (.Constant (.int 0) k p2) pos) (im R x) :=
  EV.of (pe_ix ix_tup pe_w pe_w (fun _ _ => rfl)) (EvS.op2i h (EV.int (i := 0)) fun F H v w e ⟨p, u1, u2, h1, h2, h3, h4⟩ hw Q q => ⟨p, _, 0, u1, h1, hw, SqT.of (e p _ h2), rfl, q u1 h3⟩)
theorem EV.ixP1 {p2 : Pos} {k : Nat} (h : EV X b Γ e1 (im (rP R S) (x, y))) : EV X b Γ (.Subscript e1 (.Constant (.int 1) k p2) pos) (im S y) :=
  EV.of (pe_ix ix_tup pe_w pe_w (fun _ _ => rfl)) (EvS.op2i h (EV.int (i := 1)) fun F H v w e ⟨p, u1, u2, h1, h2, h3, h4⟩ hw Q q => ⟨p, _, 1, u2, h1, hw, SqT.of (e p _ h2), rfl, q u2 h4⟩)
theorem EV.ixR0 {p2 : Pos} {k : Nat} (h : EV X b Γ e1 (im (rP3 R S T) (x, y, z))) : EV X b Γ (.Subscript e1 (.Constant (.int 0) k p2) pos) (im R x) :=
  EV.of (pe_ix ix_tup pe_w pe_w (fun _ _ => rfl)) (EvS.op2i h (EV.int (i := 0)) fun F H v w e ⟨p, u1, u2, u3, h1, h2, h3, h4, h5⟩ hw Q q => ⟨p, _, 0, u1, h1, hw, SqT.of (e p _ h2), rfl, q u1 h3⟩)
theorem EV.ixR1 {p2 : Pos} {k : Nat} (h : EV X b Γ e1 (im (rP3 R S T) (x, y, z))) : EV X b Γ (.Subscript e1 (.Constant (.int 1) k p2) pos) (im S y) :=
  EV.of (pe_ix ix_tup pe_w pe_w (fun _ _ => rfl)) (EvS.op2i h (EV.int (i := 1)) fun F H v w e ⟨p, u1, u2, u3, h1, h2, h3, h4, h5⟩ hw Q q => ⟨p, _, 1, u2, h1, hw, SqT.of (e p _ h2), rfl, q u2 h4⟩)
theorem EV.ixR2 {p2 : Pos} {k : Nat} (h : EV X b Γ e1 (im (rP3 R S T) (x, y, z))) : EV X b Γ (.Subscript e1 (.Constant (.int 2) k p2) pos) (im T z) :=
  EV.of (pe_ix ix_tup pe_w pe_w (fun _ _ => rfl)) (EvS.op2i h (EV.int (i := 2)) fun F H v w e ⟨p, u1, u2, u3, h1, h2, h3, h4, h5⟩ hw Q q => ⟨p, _, 2, u3, h1, hw, SqT.of (e p _ h2), rfl, q u3 h5⟩)
end
end Lg

namespace Lg
open PySem L2 Evl
structure EndC where
  nx : Ctx → Prop
  rt : Sl → Prop
  bk : Ctx → Prop := fun _ => False
  ct : Ctx → Prop := fun _ => False
def Sg (b : Bs) (Γ : Ctx) (σ : L2.St) (F H : Hp) : Prop := ∃ l, SgL F H Γ σ l ∧ Gd b F H l
def Rt (b : Bs) (P : Sl → Prop) (v : V) (H : Hp) : Prop := ∃ s F l, s.P F H v l ∧ Gd b F H l ∧ P s
def At (b : Bs) (P : Ctx → Prop) (σ : L2.St) (H : Hp) : Prop := ∃ Γ F, Sg b Γ σ F H ∧ P Γ
def EndC.ends (b : Bs) (C : EndC) : Ends := { nx := At b C.nx, rt := Rt b C.rt, bk := At b C.bk, ct := At b C.ct }
def HT (X : Cx) (b : Bs) (C : EndC) (Γ : Ctx) (sts : List Stmt) : Prop := ∀ σ F H, Sg b Γ σ F H → wS X sts (C.ends b) σ H
/-- some slots forgotten -/
inductive Le : Ctx → Ctx → Prop
  | nil : Le [] []
  | drop {o : Option Sl} {Γ Γ' : Ctx} : Le Γ Γ' → Le (o :: Γ) (none :: Γ')
  | keep {o : Option Sl} {Γ Γ' : Ctx} : Le Γ Γ' → Le (o :: Γ) (o :: Γ')
theorem Le.refl : ∀ Γ : Ctx, Le Γ Γ
  | [] => .nil
  | _ :: Γ => .keep (Le.refl Γ)
theorem SgL.le {F H : Hp} {Γ Γ' : Ctx} (h : Le Γ Γ') : ∀ {σ : L2.St} {l : List Addr}, SgL F H Γ σ l → ∃ l', SgL F H Γ' σ l' ∧ l'.Sublist l := by
  induction h with
  | nil => exact fun {σ l} g => ⟨l, g, List.Sublist.refl _⟩
  | @drop o Γ Γ' h ih =>
    intro σ l g
    cases σ with
    | nil => cases o <;> exact g.elim
    | cons w σ =>
      cases o with
      | none => exact ih (σ := σ) (l := l) g
      | some s =>
        obtain ⟨v, l1, l2, rfl, rfl, _, hr⟩ := g
        obtain ⟨l', h1, h2⟩ := ih hr
        exact ⟨l', h1, h2.trans (List.sublist_append_right _ _)⟩
  | @keep o Γ Γ' h ih =>
    intro σ l g
    cases σ with
    | nil => cases o <;> exact g.elim
    | cons w σ =>
      cases o with
      | none => exact ih (σ := σ) (l := l) g
      | some s =>
        obtain ⟨v, l1, l2, rfl, rfl, hs, hr⟩ := g
        obtain ⟨l', h1, h2⟩ := ih hr
        exact ⟨l1 ++ l', ⟨v, l1, l', rfl, rfl, hs, h1⟩, List.Sublist.append (List.Sublist.refl _) h2⟩
theorem Gd.sub {b : Bs} {F H : Hp} {l l' : List Addr} (d : Gd b F H l) (h : l'.Sublist l) : Gd b F H l' :=
  ⟨d.ef, d.eb, d.e, d.k, h.nodup d.nd, fun a ha => d.of a (h.mem ha), fun a ha => d.ob a (h.mem ha)⟩
theorem Gd.of_l {b : Bs} {F H : Hp} {l l' : List Addr} (d : Gd b F H l) (nd : l'.Nodup) (h : ∀ a ∈ l', F a = none ∧ b.B a = none) : Gd b F H l' :=
  ⟨d.ef, d.eb, d.e, d.k, nd, fun a ha => (h a ha).1, fun a ha => (h a ha).2⟩
theorem wS.mono {X : Cx} {sts : List Stmt} {D D' : Ends} {σ : L2.St} {H : Hp} (h : wS X sts D σ H) (n : ∀ σ H, D.nx σ H → D'.nx σ H) (r : ∀ v H, D.rt v H → D'.rt v H) (bk : ∀ σ H, D.bk σ H → D'.bk σ H) (ct : ∀ σ H, D.ct σ H → D'.ct σ H) : wS X sts D' σ H := fun pins s I =>
  thn (h pins s I) fun f s1 q => by
    cases f with
    | next => obtain ⟨σ', H', I', q⟩ := q; exact ⟨σ', H', I', n _ _ q⟩
    | brk => obtain ⟨σ', H', I', q⟩ := q; exact ⟨σ', H', I', bk _ _ q⟩
    | cont => obtain ⟨σ', H', I', q⟩ := q; exact ⟨σ', H', I', ct _ _ q⟩
    | ret u => obtain ⟨v, σ', H', I', rv, q⟩ := q; exact ⟨v, σ', H', I', rv, r _ _ q⟩
section
variable {X : Cx} {b : Bs} {C C' : EndC} {Γ Γ' Γ'' : Ctx} {e e1 e2 : Expr} {s : Sl} {α β : Type} {R : Rl α} {S : Rl β} {x : α} {y : β} {as : List α} {st : Stmt} {rest bd el : List Stmt} {t : TS} {pos pos' : Pos} {c : Bool} {i j : Nat} {n : Str}
theorem HT.step (h1 : PS X st t) (k : ∀ σ F H, Sg b Γ σ F H → t { C.ends b with nx := wS X rest (C.ends b) } σ H) : HT X b C Γ (st :: rest) := fun σ F H g => wS.of (pss_cons h1 pss_w) (k σ F H g)
theorem HT.nil (h : C.nx Γ) : HT X b C Γ [] := fun σ F H g => wS.of pss_nil ⟨Γ, F, g, h⟩
theorem HT.weak {sts : List Stmt} (h : Le Γ Γ') (k : HT X b C Γ' sts) : HT X b C Γ sts := fun σ F H ⟨l, g, d⟩ => by
  obtain ⟨l', g', h'⟩ := SgL.le h g
  exact k σ F H ⟨l', g', d.sub h'⟩
theorem HT.done (h : Le Γ Γ') (k : C.nx Γ') : HT X b C Γ [] := HT.weak h (HT.nil k)
theorem HT.mono {sts : List Stmt} (h : HT X b C Γ sts) (n : ∀ Γ, C.nx Γ → C'.nx Γ) (r : ∀ s, C.rt s → C'.rt s) (bk : ∀ Γ, C.bk Γ → C'.bk Γ) (ct : ∀ Γ, C.ct Γ → C'.ct Γ) : HT X b C' Γ sts := fun σ F H g =>
  wS.mono (h σ F H g) (fun _ _ ⟨Γ, F, g, p⟩ => ⟨Γ, F, g, n _ p⟩) (fun _ _ ⟨s, F, l, h1, h2, p⟩ => ⟨s, F, l, h1, h2, r _ p⟩) (fun _ _ ⟨Γ, F, g, p⟩ => ⟨Γ, F, g, bk _ p⟩) (fun _ _ ⟨Γ, F, g, p⟩ => ⟨Γ, F, g, ct _ p⟩)
/-- the ends of a block within, the rest behind -/
abbrev EndC.into (C : EndC) (X : Cx) (b : Bs) (rest : List Stmt) : EndC := { C with nx := fun Γ => HT X b C Γ rest }
theorem HT.into {X' : Cx} {σ : L2.St} {H : Hp} (h : wS X' bd ((C.into X b rest).ends b) σ H) : wS X' bd { C.ends b with nx := wS X rest (C.ends b) } σ H :=
  wS.mono h (fun σ H ⟨Γ, F, g, p⟩ => p σ F H g) (fun _ _ q => q) (fun _ _ q => q) (fun _ _ q => q)
/-- a value is stored -/
theorem Sg.put {σ : L2.St} {F H F' H' : Hp} {l l' : List Addr} {v : V} (i : Nat) (g : SgL F H Γ σ l) (d : Gd b F H l) (w : Gw F H F' H') (p : s.P F' H' v l') (f : ∀ a ∈ l', H a = none ∧ F' a = none) : Sg b (Γ.set i (some s)) (σ.set i (some v)) F' H' := by
  have d' := d.grow g.t w
  obtain ⟨l2, h1, h2, h3⟩ := SgL.put (o' := some s) (w := some v) (l' := l') ⟨v, rfl, p⟩ (s.d p) i (g.grow w) d.nd (fun a ha q => g.t a q (f a ha).1)
  exact ⟨l2, h1, d'.of_l h2 fun a ha => by
    rcases h3 a ha with q | q
    · exact ⟨d'.of a q, d'.ob a q⟩
    · exact ⟨(f a q).2, ex_none d.eb (f a q).1⟩⟩
theorem HT.set (i : Nat) (he : EV X b Γ e s) (k : HT X b C (Γ.set i (some s)) rest) (nd : X.N.Nodup) (hi : X.N[i]? = some n := by rfl) (hx : Loc X.env.scope n := by first | exact Or.inl rfl | exact Or.inr rfl) (hs : swapsWith e (some (.Name n pos')) pos.line X.env = pure false := by rfl)
    (hf : X.fn n = true ∨ X.env.scope.names.lookup n = some .local := by first | exact .inl rfl | exact .inr rfl | assumption) : HT X b C Γ (.Assign [.Name n pos'] e pos :: rest) :=
  HT.step (ps_set nd hi hx pe_w hs hf) fun σ F H ⟨l, g, d⟩ => he σ F H l g d _ fun v F' H' l' w p f => k _ _ _ (Sg.put i g d w p f)
theorem HT.ret (he : EV X b Γ e s) (k : C.rt s) : HT X b C Γ (.Return (some e) pos :: rest) :=
  HT.step (ps_ret pe_w) fun σ F H ⟨l, g, d⟩ => he σ F H l g d _ fun v F' H' l' w p f => ⟨s, F', l', p, (d.grow g.t w).of_l (s.d p) fun a ha => ⟨(f a ha).2, ex_none d.eb (f a ha).1⟩, k⟩
theorem HT.retN (k : C.rt (im rU ())) : HT X b C Γ (.Return none pos :: rest) := HT.step ps_retN fun σ F H ⟨l, g, d⟩ => ⟨im rU (), F, [], ⟨rfl, rfl⟩, d.of_l List.nodup_nil (fun _ h => nomatch h), k⟩
theorem HT.expr (he : EV X b Γ e s) (k : HT X b C Γ rest) (hs : swapsWith e none pos.line X.env = pure false := by rfl) : HT X b C Γ (.Expr e pos :: rest) :=
  HT.step (ps_expr pe_w hs) fun σ F H ⟨l, g, d⟩ => he σ F H l g d _ fun v F' H' l' w p f => k σ F' H' ⟨l, g.grow w, d.grow g.t w⟩
theorem HT.ite (h : TV X b Γ e c) (h1 : c = true → HT X b (C.into X b rest) Γ bd) (h2 : c = false → HT X b (C.into X b rest) Γ el) : HT X b C Γ (.If e bd el pos :: rest) :=
  HT.step (ps_if pt_w pss_w pss_w) fun σ F H ⟨l, g, d⟩ => h σ F H l g d _ fun F' H' w => by
    have g' : Sg b Γ σ F' H' := ⟨l, g.grow w, d.grow g.t w⟩
    cases c with
    | true => exact HT.into (h1 rfl σ F' H' g')
    | false => exact HT.into (h2 rfl σ F' H' g')
/-- if e: bd -/
theorem HT.when (h : TV X b Γ e c) (h1 : c = true → HT X b (C.into X b rest) Γ bd) (h2 : c = false → HT X b C Γ rest) : HT X b C Γ (.If e bd [] pos :: rest) := HT.ite h h1 fun q => HT.nil (h2 q)
theorem HT.brk (k : C.bk Γ) : HT X b C Γ (.Break pos :: rest) := HT.step ps_break fun σ F H g => ⟨Γ, F, g, k⟩
theorem HT.cont (k : C.ct Γ) : HT X b C Γ (.Continue pos :: rest) := HT.step ps_continue fun σ F H g => ⟨Γ, F, g, k⟩
theorem HT.pass (k : HT X b C Γ rest) : HT X b C Γ (.Pass pos :: rest) := HT.step ps_pass fun σ F H g => k σ F H g
/-- a way that can't be -/
theorem HT.no {sts : List Stmt} (h : False) : HT X b C Γ sts := h.elim
theorem HT.aug {op : Operator} {f : Int → Int → Int} {a c : Int} (ho : PIp X op (ipI f)) (i : Nat) (hΓ : Γ[i]? = some (some (im rI a))) (he : EV X b Γ e (im rI c)) (k : HT X b C (Γ.set i (some (im rI (f a c)))) rest) (nd : X.N.Nodup) (hi : X.N[i]? = some n := by rfl) (hx : Loc X.env.scope n := by first | exact Or.inl rfl | exact Or.inr rfl)
    (hf : X.fn n = true ∨ X.env.scope.names.lookup n = some .local := by first | exact .inl rfl | exact .inr rfl | assumption) : HT X b C Γ (.AugAssign (.Name n pos') op e pos :: rest) :=
  HT.step (ps_aug nd hi hx pe_w ho hf) fun σ F H ⟨l, g, d⟩ => by
    obtain ⟨v, l1, h1, h2, _⟩ := g.get hΓ
    refine ⟨v, h1, he σ F H l g d _ fun u F' H' l' w p _ => ⟨a, c, h2.2, p.2, k _ _ _ (Sg.put (s := im rI (f a c)) (l' := []) i g d w ⟨rfl, rfl⟩ fun _ h => nomatch h)⟩⟩
/-! lists of one's own -/
theorem Sg.chg {σ : L2.St} {F H : Hp} {l : List Addr} (g : SgL F H Γ σ l) (d : Gd b F H l) (hΓ : Γ[i]? = some (some (ow R as))) : ∃ p xs, σ[i]? = some (some (.ref p)) ∧ H p = some (.lst xs) ∧ All2 (R.r F) xs as ∧ ∀ xs' (bs : List β) (S : Rl β), All2 (S.r F) xs' bs → Sg b (Γ.set i (some (ow S bs))) σ F (upd H p (.lst xs')) := by
  obtain ⟨v, l1, h1, ⟨p, xs, rfl, rfl, h4, h5⟩, h6, h7⟩ := g.mod d.nd hΓ
  have hp := h6 p (List.mem_singleton.mpr rfl)
  refine ⟨p, xs, h1, h4, h5, fun xs' bs S h => ⟨l, h7 _ _ (fun a ha => upd_ne fun z => ha (List.mem_singleton.mpr z)) ⟨p, xs', rfl, rfl, upd_same, h⟩, d.ef, Ex.mut d.eb (d.ob p hp), Ex.mut d.e (d.of p hp), d.k, d.nd, d.of, d.ob⟩⟩
theorem HT.frz {sts : List Stmt} (i : Nat) (hΓ : Γ[i]? = some (some (ow R as))) (k : HT X b C (Γ.set i (some (im (rL R) as))) sts) : HT X b C Γ sts := fun σ F H ⟨l, g, d⟩ => by
  obtain ⟨v, l1, h1, ⟨p, xs, rfl, rfl, h4, h5⟩, h6, h7⟩ := g.frz d.nd hΓ
  have hp := h6 p (List.mem_singleton.mpr rfl)
  have fp := d.of p hp
  obtain ⟨l2, k1, k2, k3⟩ := h7 (upd F p (.lst xs)) (im (rL R) as) (Ex.new fp) ⟨rfl, p, xs, rfl, upd_same, h5.imp fun _ _ => R.m (Ex.new fp)⟩
  refine k σ (upd F p (.lst xs)) H ⟨l2, k1, d.ef.trans (Ex.new fp), d.eb, fun a u ha => ?_, fun a q1 q2 => ?_, k2, fun a ha => ?_, fun a ha => d.ob a (k3 a ha).1⟩
  · by_cases z : a = p
    · subst z; rw [upd_same] at ha; rw [h4]; exact ha
    · rw [upd_ne z] at ha; exact d.e a u ha
  · rw [upd_ne fun z => q2 (by rw [z]; exact d.ob p hp)]; exact d.k a q1 q2
  · rw [upd_ne fun z => (k3 a ha).2 (List.mem_singleton.mpr z)]; exact d.of a (k3 a ha).1
theorem HT.append {apos cpos np : Pos} (i : Nat) (hΓ : Γ[i]? = some (some (ow R as))) (he : EV X b Γ e (im R x)) (hz : as.length < 100000) (k : HT X b C (Γ.set i (some (ow R (as ++ [x])))) rest) (hN : X.N[i]? = some n := by rfl) (hv : Vis X.env.scope n := by first | exact Or.inl rfl | exact Or.inr (Or.inl rfl) | exact Or.inr (Or.inr rfl))
    (hd : (n == ("__debug__" : Str)) = false := by decide) (hcd : (n == ("__classdict__" : Str)) = false := by decide) (hse : starEach [e] X.env = (false, eval e X.env) :: starEach [] X.env := by rfl)
    (hbm : ∀ {t : TE} {ta : TA}, PE X (.Name n np) t → PA X [e] ta → PE X (.Call (.Attribute (.Name n np) "append" apos) [e] [] cpos) (tBM X.K "list" rAppend t ta) := by exact fun h1 h2 => pe_bm PySem.F.plainAttrs_list PySem.F.slot_list_append PySem.F.type_list_append mt_append h1 h2)
    (hs : swapsWith (.Call (.Attribute (.Name n np) "append" apos) [e] [] cpos) none pos.line X.env = pure false := by rfl) :
    HT X b C Γ (.Expr (.Call (.Attribute (.Name n np) "append" apos) [e] [] cpos) pos :: rest) :=
  HT.step (ps_expr (hbm (pe_var hN hv hd hcd) (pa_cons pe_w pa_nil hse)) hs) fun σ F H ⟨l, g, d⟩ => by
    obtain ⟨v, l1, h1, ⟨p, xs, rfl, rfl, h4, h5⟩, h6⟩ := g.get hΓ
    refine ⟨_, h1, Or.inl ⟨rfl, xs, SqL.of h4⟩, he σ F H l g d _ fun u F' H' l' w q _ => ?_⟩
    have g' := g.grow w
    obtain ⟨p', xs', k1, k2, k3, k4⟩ := Sg.chg (β := α) g' (d.grow g.t w) hΓ
    rw [h1] at k1
    cases k1
    refine ⟨p, xs', u, rfl, rfl, k2, sz_lt (by rw [k3.len]; exact hz), ?_⟩
    exact k σ F' _ (k4 (xs' ++ [u]) (as ++ [x]) R (k3.app (.cons q.2 .nil)))
/-- xs[k] = e -/
theorem HT.setI {np sp : Pos} {k : Int} {m : Nat} (i : Nat) (hΓ : Γ[i]? = some (some (ow R as))) (he : EV X b Γ e (im R x)) (hk : EV X b Γ e1 (im rI k)) (hm : ixN as.length k = some m) (q : HT X b C (Γ.set i (some (ow R (as.set m x)))) rest) (hN : X.N[i]? = some n := by rfl) (hv : Vis X.env.scope n := by first | exact Or.inl rfl | exact Or.inr (Or.inl rfl) | exact Or.inr (Or.inr rfl))
    (hd : (n == ("__debug__" : Str)) = false := by decide) (hcd : (n == ("__classdict__" : Str)) = false := by decide)
    (ha : ∀ {t t1 t2 : TE}, PE X e t → PE X (.Name n np) t1 → PE X e1 t2 → PS X (.Assign [.Subscript (.Name n np) e1 sp] e pos) (tAsg t (gSub t1 t2 rSetL)) := by exact fun h1 h2 h3 => ps_asg h1 (pg_sub h2 h3 set_list)) :
    HT X b C Γ (.Assign [.Subscript (.Name n np) e1 sp] e pos :: rest) :=
  HT.step (ha pe_w (pe_var hN hv hd hcd) pe_w) fun σ F H ⟨l, g, d⟩ => he σ F H l g d _ fun u F1 H1 l1 w1 p1 _ => by
    obtain ⟨v, l2, h1, ⟨p, xs, rfl, rfl, h4, h5⟩, h6⟩ := (g.grow w1).get hΓ
    have d1 := d.grow g.t w1
    have g1 := g.grow w1
    refine ⟨_, h1, hk σ F1 H1 l g1 d1 _ fun u2 F2 H2 l2 w2 p2 _ => ?_⟩
    obtain ⟨p', xs', k1, k2, k3, k4⟩ := Sg.chg (β := α) (g1.grow w2) (d1.grow g1.t w2) hΓ
    rw [h1] at k1
    cases k1
    exact ⟨p, xs', k, m, rfl, p2.2, k2, by rw [k3.len]; exact hm, q σ F2 _ (k4 _ _ R (All2.set (R.m w2.f p1.2) m k3))⟩
/-- xs[k] += e on ints -/
theorem HT.augI {op : Operator} {f : Int → Int → Int} {is : List Int} {np sp : Pos} {k a c : Int} {m : Nat} (ho : PIp X op (ipI f)) (i : Nat) (hΓ : Γ[i]? = some (some (ow rI is))) (hk : EV X b Γ e1 (im rI k)) (he : EV X b Γ e (im rI c)) (hm : ixN is.length k = some m) (ha : is[m]? = some a) (q : HT X b C (Γ.set i (some (ow rI (is.set m (f a c))))) rest)
    (hN : X.N[i]? = some n := by rfl) (hv : Vis X.env.scope n := by first | exact Or.inl rfl | exact Or.inr (Or.inl rfl) | exact Or.inr (Or.inr rfl)) (hd : (n == ("__debug__" : Str)) = false := by decide) (hcd : (n == ("__classdict__" : Str)) = false := by decide)
    (hg : PGet X (rIxL X.K)) (hau : ∀ ov iv new, augStore e1 ov iv new = (do holding [new, ov, iv] (setItem ov iv new); release [new, ov, iv] []; pure .next) := by intros; rfl) : HT X b C Γ (.AugAssign (.Subscript (.Name n np) e1 sp) op e pos :: rest) :=
  HT.step (ps_augS (pe_var hN hv hd hcd) pe_w hg pe_w ho set_list hau) fun σ F H ⟨l, g, d⟩ => by
    obtain ⟨v, l2, h1, ⟨p, xs, rfl, rfl, h4, h5⟩, h6⟩ := g.get hΓ
    refine ⟨_, h1, hk σ F H l g d _ fun u1 F1 H1 l1 w1 p1 _ => ?_⟩
    have d1 := d.grow g.t w1
    have g1 := g.grow w1
    obtain ⟨x0, hx0, rx0⟩ := h5.get ha
    have hx0' : atI xs k = some x0 := by unfold atI; rw [h5.len, hm]; exact hx0
    refine ⟨p, xs, k, x0, rfl, p1.2, SqL.of (w1.h p _ h4), hx0', he σ F1 H1 l g1 d1 _ fun u2 F2 H2 l2 w2 p2 _ => ?_⟩
    refine ⟨a, c, rx0, p2.2, ?_⟩
    obtain ⟨p', xs', k1, k2, k3, k4⟩ := Sg.chg (β := Int) (g1.grow w2) (d1.grow g1.t w2) hΓ
    rw [h1] at k1
    cases k1
    exact ⟨p, xs', k, m, rfl, p1.2, k2, by rw [k3.len]; exact hm, q σ F2 _ (k4 _ _ rI (All2.set (p := rI.r F2) rfl m k3))⟩
end
end Lg

namespace Lg
open PySem L2 Evl PyProof.Rows
theorem get_list {X : Cx} : PGet X (rIxL X.K) := by
  intro pins s σ H x y v u Q I rx ry h
  obtain ⟨p, xs, i, z, rfl, rfl, hq, he, q⟩ := h
  cases rx
  obtain ⟨t, rfl⟩ := ry
  obtain ⟨its, r, pl, hz⟩ := I.list hq
  obtain ⟨j, h1, h2, h3, h4, h5⟩ := atI_get he
  obtain ⟨w, ew, rw'⟩ := r.get h2
  have hl := r.length
  have hn := line63
  have fin : EP X pins σ Q w s := ⟨z, H, I, rw', q⟩
  by_cases h0 : 0 ≤ i
  · have hj : i.toNat = j := by
      rw [seqIndex_of h0 h5] at h1
      exact Option.some.inj h1
    exact wpAny_getItem_list pl.isList h0 (by omega) (by rw [hj]; simpa using ew) fin
  · have hj : (i + (its.toArray.size : Int)).toNat = j := by
      rw [seqIndex_neg (by omega) h4] at h1
      rw [List.size_toArray, ← hl]
      exact Option.some.inj h1
    exact wpAny_getItem_list_neg pl.isList (by omega) (by rw [List.size_toArray] <;> omega) (by omega) (by rw [hj]; simpa using ew) fin
/-! ### what is walked -/
/-- J gives n items, the i-th as IR i tells it -/
def ItOk (J : It) (F1 : Hp) (n : Nat) (IR : Nat → Im → Prop) : Prop := ∃ (G : Hp → Prop) (Y : Nat → Hp → V → Hp → Prop), Walk J n G Y ∧ (∀ F' H', Ex F1 F' → Ex F' H' → G H') ∧
  ∀ i F' H' v H'', i < n → Ex F1 F' → Ex F' H' → Y i H' v H'' → ∃ F'' y, Gw F' H' F'' H'' ∧ IR i y ∧ y.R.r F'' v y.a
def IV (X : Cx) (b : Bs) (Γ : Ctx) (tg iter : Expr) (n : Nat) (IR : Nat → Im → Prop) : Prop := ∃ wi, PI X tg iter wi ∧ ∀ σ F H l, SgL F H Γ σ l → Gd b F H l → ∀ R : It → Hp → Prop, (∀ J F1 H1, Gw F H F1 H1 → ItOk J F1 n IR → R J H1) → wi σ H R
/-- items of a list -/
def IL {α : Type} (R : Rl α) (as : List α) : Nat → Im → Prop := fun i y => ∃ a, as[i]? = some a ∧ y = mk R a
def IRg (lo : Int) : Nat → Im → Prop := fun i y => y = mk rI (lo + (i : Int))
def IRz : Nat → Im → Prop := fun i y => y = mk rI (i : Int)
def IEn {α : Type} (R : Rl α) (as : List α) : Nat → Im → Prop := fun i y => ∃ a, as[i]? = some a ∧ y = mk (rP rI R) ((i : Int), a)
def IZp {α β : Type} (R : Rl α) (S : Rl β) (as : List α) (bs : List β) : Nat → Im → Prop := fun i y => ∃ a c, as[i]? = some a ∧ bs[i]? = some c ∧ y = mk (rP R S) (a, c)
section
variable {X : Cx} {b : Bs} {Γ : Ctx} {e e1 e2 tg : Expr} {α β : Type} {R : Rl α} {S : Rl β} {as : List α} {bs : List β} {i j : Int} {p pos : Pos}
theorem IV.list (h : EV X b Γ e (im (rL R) as)) : IV X b Γ tg e as.length (IL R as) := ⟨_, pi_list pe_w, fun σ F H l g d Q q => h σ F H l g d _ fun v F1 H1 l1 w ⟨_, a, xs, h1, h2, h3⟩ _ =>
  ⟨a, h1, ⟨xs, SqL.of (w.e a _ h2)⟩, q _ F1 H1 w (by
    rw [← h3.len]
    refine ⟨_, _, walk_list, fun F' H' e1 e2 => SqL.of (e2 a _ (e1 a _ h2)), fun i F' H' v H'' hi e1 e2 y => ?_⟩
    obtain ⟨rfl, hy⟩ := y
    obtain ⟨a0, k1, k2⟩ := h3.getV hy
    exact ⟨F', mk R a0, Gw.refl e2, ⟨a0, k1, rfl⟩, R.m e1 k2⟩)⟩⟩
theorem IV.tup (h : EV X b Γ e (im (rT R) as)) : IV X b Γ tg e as.length (IL R as) := ⟨_, pi_tup pe_w, fun σ F H l g d Q q => h σ F H l g d _ fun v F1 H1 l1 w ⟨_, a, xs, h1, h2, h3⟩ _ =>
  ⟨a, h1, ⟨xs, SqT.of (w.e a _ h2)⟩, q _ F1 H1 w (by
    rw [← h3.len]
    refine ⟨_, _, walk_tup, fun F' H' e1 e2 => SqT.of (e2 a _ (e1 a _ h2)), fun i F' H' v H'' hi e1 e2 y => ?_⟩
    obtain ⟨rfl, hy⟩ := y
    obtain ⟨a0, k1, k2⟩ := h3.getV hy
    exact ⟨F', mk R a0, Gw.refl e2, ⟨a0, k1, rfl⟩, R.m e1 k2⟩)⟩⟩
theorem ims1 {F : Hp} {vs : List V} {x : Im} (h : Ims F vs [x]) : ∃ v, vs = [v] ∧ x.R.r F v x.a := by
  cases h with
  | cons h1 h2 => cases h2; exact ⟨_, rfl, h1⟩
theorem ims2 {F : Hp} {vs : List V} {x y : Im} (h : Ims F vs [x, y]) : ∃ v w, vs = [v, w] ∧ x.R.r F v x.a ∧ y.R.r F w y.a := by
  cases h with
  | cons h1 h2 =>
    obtain ⟨w, rfl, h3⟩ := ims1 h2
    exact ⟨_, _, rfl, h1, h3⟩
theorem IV.rng1 (h : AV X b Γ [e] [mk rI j]) (hj : -(2 ^ 62) ≤ j ∧ j < 2 ^ 62) (hm : X.mg "range" = none) (hg : Gl X "range" := by rfl) (hs : starEach [e] X.env = [(false, eval e X.env)] := by rfl) : IV X b Γ tg (.Call (.Name "range" p) [e] [] pos) j.toNat IRz := by
  obtain ⟨ta, h1, h2⟩ := h
  refine ⟨_, pi_range1 hg hm h1 hs, fun σ F H l g d Q q => h2 σ F H l g d _ fun vs F1 H1 w k => ?_⟩
  obtain ⟨v, rfl, hv⟩ := ims1 k
  refine ⟨j, by rw [show v = V.int j from hv], hj.1, hj.2, q _ F1 H1 w ⟨_, _, walk_range, fun _ _ _ _ => trivial, fun i F' H' v H'' hi e1 e2 y => ?_⟩⟩
  obtain ⟨rfl, rfl⟩ := y
  exact ⟨F', mk rI (i : Int), Gw.refl e2, rfl, congrArg V.int (Int.zero_add _)⟩
theorem IV.rng2 (h : AV X b Γ [e1, e2] [mk rI i, mk rI j]) (hi : -(2 ^ 62) ≤ i ∧ i < 2 ^ 62) (hj : -(2 ^ 62) ≤ j ∧ j < 2 ^ 62) (hm : X.mg "range" = none) (hg : Gl X "range" := by rfl) (hs : starEach [e1, e2] X.env = [(false, eval e1 X.env), (false, eval e2 X.env)] := by rfl)
    (hs2 : starEach [e2] X.env = [(false, eval e2 X.env)] := by rfl) : IV X b Γ tg (.Call (.Name "range" p) [e1, e2] [] pos) (j - i).toNat (IRg i) := by
  obtain ⟨ta, h1, h2⟩ := h
  refine ⟨_, pi_range2 hg hm h1 hs hs2, fun σ F H l g d Q q => h2 σ F H l g d _ fun vs F1 H1 w k => ?_⟩
  obtain ⟨v, u, rfl, hv, hu⟩ := ims2 k
  refine ⟨i, j, by rw [show v = V.int i from hv, show u = V.int j from hu], ⟨hi.1, hi.2, hj.1, hj.2⟩, q _ F1 H1 w ⟨_, _, walk_range, fun _ _ _ _ => trivial, fun i F' H' v H'' hi e1 e2 y => ?_⟩⟩
  obtain ⟨rfl, rfl⟩ := y
  exact ⟨F', _, Gw.refl e2, rfl, rfl⟩
theorem IV.enum {elts : List Expr} {kk : Nat} {tpos : Pos} (h : AV X b Γ [e] [mk (rL R) as]) (hm : X.mg "enumerate" = none) (hg : Gl X "enumerate" := by rfl) (hs : starEach [e] X.env = [(false, eval e X.env)] := by rfl) :
    IV X b Γ (.Tuple elts kk tpos) (.Call (.Name "enumerate" p) [e] [] pos) as.length (IEn R as) := by
  obtain ⟨ta, h1, h2⟩ := h
  refine ⟨_, pi_enum hg hm h1 hs, fun σ F H l g d Q q => h2 σ F H l g d _ fun vs F1 H1 w k => ?_⟩
  obtain ⟨v, rfl, a, xs, rfl, hp, hx⟩ := ims1 k
  refine ⟨a, xs, rfl, SqL.of (w.e a _ hp), q _ F1 H1 w (by
    have hl := hx.len
    rw [show as.length = xs.length from hl.symm]
    refine ⟨_, _, walk_enum, fun F' H' e1 e2 => SqL.of (e2 a _ (e1 a _ hp)), fun i F' H' v H'' hi e1 e2 y => ?_⟩
    obtain ⟨T, x, y, rfl, hT, rfl, k1, k2⟩ := y
    cases k1
    obtain ⟨a0, z1, z2⟩ := All2.getV hx k2
    exact ⟨_, mk (rP rI R) ((i : Int), a0), Gw.new e2 hT, ⟨a0, z1, rfl⟩, T, _, _, rfl, upd_same, rfl, R.m (e1.trans (Ex.new (ex_none e2 hT))) z2⟩)⟩
theorem IV.zip {elts : List Expr} {kk : Nat} {tpos : Pos} (h : AV X b Γ [e1, e2] [mk (rL R) as, mk (rL S) bs]) (hl : as.length = bs.length) (hm : X.mg "zip" = none) (hg : Gl X "zip" := by rfl) (hs : starEach [e1, e2] X.env = (false, eval e1 X.env) :: starEach [e2] X.env := by rfl)
    (hpl : (backTo pos (starEach [e2] X.env)).any (·.1) = false := by rfl) : IV X b Γ (.Tuple elts kk tpos) (.Call (.Name "zip" p) [e1, e2] [] pos) as.length (IZp R S as bs) := by
  obtain ⟨ta, h1, h2⟩ := h
  refine ⟨_, pi_zip hg hm h1 hs hpl, fun σ F H l g d Q q => h2 σ F H l g d _ fun vs F1 H1 w k => ?_⟩
  obtain ⟨v, u, rfl, ⟨a, xs, rfl, hp, hx⟩, ⟨c, ys, rfl, hp', hy⟩⟩ := ims2 k
  refine ⟨a, c, xs, ys, rfl, SqL.of (w.e a _ hp), SqL.of (w.e c _ hp'), q _ F1 H1 w (by
    have hlx : xs.length = as.length := hx.len
    have hly : ys.length = bs.length := hy.len
    refine ⟨_, _, walk_zip (xs := xs) (ys := ys) (n := as.length) (by omega), fun F' H' e1 e2 => ⟨SqL.of (e2 a _ (e1 a _ hp)), SqL.of (e2 c _ (e1 c _ hp'))⟩, fun i F' H' v H'' hi e1 e2 y => ?_⟩
    obtain ⟨T, x, y, rfl, hT, rfl, k1, k2⟩ := y
    obtain ⟨a0, z1, z2⟩ := All2.getV hx k1
    obtain ⟨c0, z3, z4⟩ := All2.getV hy k2
    have ee := e1.trans (Ex.new (o := HO.tup [x, y]) (ex_none e2 hT))
    exact ⟨_, mk (rP R S) (a0, c0), Gw.new e2 hT, ⟨a0, c0, z1, z3, rfl⟩, T, _, _, rfl, upd_same, R.m ee z2, S.m ee z4⟩)⟩
end
/-! ### targets -/
def wG (X : Cx) (tg : Expr) : TG := fun v σ H Q => ∀ pins s u, Inv X pins σ H s → RelV v u → wpAny (model X.prog X.w) X.A (assign tg X.env u) (fun _ s' => ∃ σ' H', Inv X pins σ' H' s' ∧ Q σ' H') X.xe s
theorem pg_w {X : Cx} {tg : Expr} : PG X tg (wG X tg) := ⟨fun pins s σ H v u Q I r h => h pins s u I r⟩
theorem wG.of {X : Cx} {tg : Expr} {g : TG} {v : V} {σ : L2.St} {H : Hp} {Q : L2.St → Hp → Prop} (h : PG X tg g) (q : g v σ H Q) : wG X tg v σ H Q := fun pins s u I r => h.run pins s σ H v u Q I r q
/-- y is stored to the target: Γ' behind -/
def GvS (b : Bs) (Γ : Ctx) (g : TG) (y : Im) (Γ' : Ctx) : Prop := ∀ σ F H v, Sg b Γ σ F H → y.R.r F v y.a → ∀ Q : L2.St → Hp → Prop, (∀ σ', Sg b Γ' σ' F H → Q σ' H) → g v σ H Q
def GV (X : Cx) (b : Bs) (Γ : Ctx) (tg : Expr) (y : Im) (Γ' : Ctx) : Prop := ∃ g, PG X tg g ∧ GvS b Γ g y Γ'
/-- several -/
def GsS (b : Bs) (Γ : Ctx) (g : TGs) (ys : List Im) (Γ' : Ctx) : Prop := ∀ σ F H vs, Sg b Γ σ F H → Ims F vs ys → ∀ Q : L2.St → Hp → Prop, (∀ σ', Sg b Γ' σ' F H → Q σ' H) → g vs σ H Q
def GsV (X : Cx) (b : Bs) (Γ : Ctx) (tgs : List Expr) (ys : List Im) (Γ' : Ctx) : Prop := ∃ g, PGs X tgs g ∧ GsS b Γ g ys Γ'
section
variable {X : Cx} {b : Bs} {C : EndC} {Γ Γ' Γ'' : Ctx} {e tg : Expr} {y : Im} {ys : List Im} {α β γ : Type} {R : Rl α} {S : Rl β} {T : Rl γ} {x : α} {z : β} {as : List α} {n : Str} {p pos : Pos} {rest bd : List Stmt}
theorem Sg.put0 {σ : L2.St} {F H : Hp} {v : V} {s : Sl} (i : Nat) (g : Sg b Γ σ F H) (p : s.P F H v []) : Sg b (Γ.set i (some s)) (σ.set i (some v)) F H := by
  obtain ⟨l, g, d⟩ := g
  exact Sg.put i g d (Gw.refl d.e) p fun _ h => nomatch h
theorem GV.name (i : Nat) (nd : X.N.Nodup) (hi : X.N[i]? = some n := by rfl) (hx : Loc X.env.scope n := by first | exact Or.inl rfl | exact Or.inr rfl) (hf : X.fn n = true ∨ X.env.scope.names.lookup n = some .local := by first | exact .inl rfl | exact .inr rfl | assumption) :
    GV X b Γ (.Name n pos) (mk R x) (Γ.set i (some (im R x))) := ⟨_, pg_name nd hi hx hf, fun σ F H v g hv Q q => q _ (Sg.put0 i g ⟨rfl, hv⟩)⟩
theorem GsV.nil : GsV X b Γ [] [] Γ := ⟨_, pgs_nil, fun σ F H vs g h Q q => by cases h; exact ⟨rfl, q σ g⟩⟩
theorem GsV.cons {es : List Expr} (h : GV X b Γ e y Γ') (k : GsV X b Γ' es ys Γ'') (hs : ∀ {t u}, PG X e t → PGs X es u → PGs X (e :: es) (gCons t u) := by exact fun h1 h2 => pgs_cons h1 h2) : GsV X b Γ (e :: es) (y :: ys) Γ'' := by
  obtain ⟨g1, p1, k1⟩ := h
  obtain ⟨g2, p2, k2⟩ := k
  refine ⟨_, hs p1 p2, fun σ F H vs g hv Q q => ?_⟩
  cases hv with
  | cons h1 h2 => exact ⟨_, _, rfl, k1 σ F H _ g h1 _ fun σ' g' => k2 σ' F H _ g' h2 Q q⟩
theorem Ims.ofAll {F : Hp} : ∀ {vs : List V} {as : List α}, All2 (R.r F) vs as → Ims F vs (as.map (mk R))
  | _, _, .nil => .nil
  | _, _, .cons u h => .cons (x := mk R _) u (Ims.ofAll h)
theorem GV.tup {es : List Expr} {kk : Nat} (h : GsV X b Γ es (as.map (mk R)) Γ') (hs : ∀ {t : TGs}, PGs X es t → PG X (.Tuple es kk pos) (gTup X.K as.length t) := by exact fun h => pg_tup (by rfl) h) : GV X b Γ (.Tuple es kk pos) (mk (rT R) as) Γ' := by
  obtain ⟨g1, p1, k1⟩ := h
  refine ⟨_, hs p1, fun σ F H v g ⟨a, xs, h1, h2, h3⟩ Q q => ⟨a, xs, h1, ?_, h3.len, k1 σ F H xs g (Ims.ofAll h3) Q q⟩⟩
  obtain ⟨l, g, d⟩ := g
  exact SqT.of (d.e a _ h2)
theorem GV.pair {es : List Expr} {kk : Nat} {c : α × β} (h : GsV X b Γ es [mk R c.1, mk S c.2] Γ') (hs : ∀ {t : TGs}, PGs X es t → PG X (.Tuple es kk pos) (gTup X.K 2 t) := by exact fun h => pg_tup (by rfl) h) : GV X b Γ (.Tuple es kk pos) (mk (rP R S) c) Γ' := by
  obtain ⟨g1, p1, k1⟩ := h
  refine ⟨_, hs p1, fun σ F H v g ⟨a, u, w, h1, h2, h3, h4⟩ Q q => ⟨a, _, h1, ?_, rfl, k1 σ F H _ g (.cons h3 (.cons h4 .nil)) Q q⟩⟩
  obtain ⟨l, g, d⟩ := g
  exact SqT.of (d.e a _ h2)
/-- target = e -/
theorem HT.asg (he : EV X b Γ e (im R x)) (h : GV X b Γ tg (mk R x) Γ') (k : HT X b C Γ' rest) (hs : swapsWithSole [tg] e pos.line X.env = pure false := by rfl) (hw : swappedStores [tg] e X.env = pure none := by rfl)
    (h1 : (assignEach [tg] X.env).map (·.2) = [assign tg X.env] := by rfl) : HT X b C Γ (.Assign [tg] e pos :: rest) := by
  obtain ⟨g1, p1, k1⟩ := h
  exact HT.step (ps_asg pe_w p1 hs hw h1) fun σ F H ⟨l, g, d⟩ => he σ F H l g d _ fun v F' H' l' w p _ => k1 σ F' H' v ⟨l, g.grow w, d.grow g.t w⟩ p.2 _ fun σ' g' => k σ' F' H' g'
/-- the base taken further up -/
structure Up (b b' : Bs) : Prop where
  B : b'.B = b.B
  f : Ex b.F b'.F
  k : ∀ a, b.F a = none → b.B a ≠ none → b'.F a = none
theorem Up.gd {b' : Bs} {F H : Hp} {l : List Addr} (u : Up b b') (d : Gd b' F H l) : Gd b F H l :=
  ⟨u.f.trans d.ef, u.B ▸ d.eb, d.e, fun a h1 h2 => d.k a (u.k a h1 h2) (u.B ▸ h2), d.nd, d.of, fun a ha => u.B ▸ d.ob a ha⟩
theorem Up.sg {b' : Bs} {F H : Hp} {σ : L2.St} (u : Up b b') (g : Sg b' Γ σ F H) : Sg b Γ σ F H := let ⟨l, g, d⟩ := g; ⟨l, g, u.gd d⟩
theorem Up.at {b' : Bs} {H : Hp} {σ : L2.St} {P : Ctx → Prop} (u : Up b b') (h : At b' P σ H) : At b P σ H := let ⟨Γ, F, g, p⟩ := h; ⟨Γ, F, u.sg g, p⟩
theorem Up.rt {b' : Bs} {H : Hp} {v : V} {P : Sl → Prop} (u : Up b b') (h : Rt b' P v H) : Rt b P v H := let ⟨s, F, l, p, d, q⟩ := h; ⟨s, F, l, p, u.gd d, q⟩
theorem Gd.up {F H : Hp} {l : List Addr} (d : Gd b F H l) : Up b ⟨F, b.B⟩ := ⟨rfl, d.ef, d.k⟩
theorem Gd.self {F H : Hp} {l : List Addr} (d : Gd b F H l) : Gd ⟨F, b.B⟩ F H l := ⟨Ex.refl F, d.eb, d.e, fun _ h _ => h, d.nd, d.of, d.ob⟩
/-- a loop: Inv by the turn and the slots -/
theorem HT.for {iter : Expr} {m : Nat} {IR : Nat → Im → Prop} (hi : IV X b Γ tg iter m IR) (Inv : Nat → Ctx → Prop) (h0 : Inv 0 Γ)
    (hs : ∀ b' i y Γ', b'.B = b.B → i < m → IR i y → Inv i Γ' → ∃ Γ'', GV X b' Γ' tg y Γ'' ∧ HT X b' { C with nx := Inv (i + 1), ct := Inv (i + 1), bk := fun Γ => HT X b C Γ rest } Γ'' bd) (hd : ∀ Γ', Inv m Γ' → HT X b C Γ' rest)
    (hp : PassesOwn (model X.prog X.w) X.A X.env X.xe) (hc : X.calm = true := by rfl) (hf : ∀ x, foldedSetIterable iter X.env x = pure x := by intro _; rfl) : HT X b C Γ (.For tg iter bd [] pos :: rest) := by
  obtain ⟨wi, p1, k1⟩ := hi
  refine HT.step (ps_for hp hc p1 pg_w pss_w hf) fun σ F H ⟨l, g, d⟩ => k1 σ F H l g d _ fun J F1 H1 w ⟨G, Y, W, hG, hY⟩ => ?_
  have d1 := d.grow g.t w
  have u1 := d1.up
  refine for_it W (fun i σ' H' => At ⟨F1, b.B⟩ (Inv i) σ' H') ⟨Γ, F1, ⟨l, g.grow w, d1.self⟩, h0⟩ (fun i σ' H' _ ⟨Γ', F', ⟨l', g', d'⟩, _⟩ => hG F' H' d'.ef d'.e) (fun i v σ' H' H'' hi ⟨Γ', F', ⟨l', g', d'⟩, iv⟩ y => ?_) (fun σ' H' ⟨Γ', F', g', iv⟩ => hd Γ' iv σ' F' H' (u1.sg g'))
  obtain ⟨F'', y0, w', r1, r2⟩ := hY i F' H' v H'' hi d'.ef d'.e y
  have d2 := d'.grow g'.t w'
  obtain ⟨Γ'', ⟨g0, q1, q2⟩, q3⟩ := hs ⟨F'', b.B⟩ i y0 Γ' rfl hi r1 iv
  have u2 : Up ⟨F1, b.B⟩ ⟨F'', b.B⟩ := d2.up
  refine wG.of q1 (q2 σ' F'' H'' v ⟨l', g'.grow w', d2.self⟩ r2 _ fun σ2 g2 => ?_)
  refine wS.mono (q3 σ2 F'' H'' g2) (fun _ _ h => u2.at h) (fun _ _ h => u1.rt (u2.rt h)) (fun σ3 H3 h => ?_) (fun _ _ h => u2.at h)
  obtain ⟨Γ3, F3, g3, h3⟩ := h
  exact h3 σ3 F3 H3 (u1.sg (u2.sg g3))
end
end Lg

namespace Lg
open PySem L2 Evl PyProof.Rows
/-! ### comprehensions -/
def wEb (X : Cx) (scope : Scope) (e : Expr) : TE := fun σ H Q => ∀ (s : Shared) (H0 : Hp) (C : Addr) (cl : List (Str × Addr)) (fp : List Addr), wE (X.blk s H0 scope (compEnvC scope cl C X.env) fp) e σ H Q
def wTb (X : Cx) (scope : Scope) (e : Expr) : TT := fun σ H Q => ∀ (s : Shared) (H0 : Hp) (C : Addr) (cl : List (Str × Addr)) (fp : List Addr), wT (X.blk s H0 scope (compEnvC scope cl C X.env) fp) e σ H Q
section
variable {X : Cx} {b : Bs} {Γ Γ' : Ctx} {e e1 e2 elt iter : Expr} {α β γ : Type} {R : Rl α} {S : Rl γ} {as : List α} {scope : Scope} {n : Str} {np pos : Pos} {j m : Nat} {IR : Nat → Im → Prop}
theorem pe_wb {s : Shared} {H0 : Hp} {C : Addr} {cl : List (Str × Addr)} {fp : List Addr} : PE (X.blk s H0 scope (compEnvC scope cl C X.env) fp) e (wEb X scope e) := ⟨fun pins s' _ _ _ I h => h s H0 C cl fp pins s' I⟩
theorem pt_wb {s : Shared} {H0 : Hp} {C : Addr} {cl : List (Str × Addr)} {fp : List Addr} : PT (X.blk s H0 scope (compEnvC scope cl C X.env) fp) e (wTb X scope e) := ⟨fun pins s' _ _ _ I h => h s H0 C cl fp pins s' I⟩
/-- a comprehension: as a value, and stored to a local name -/
def LV (X : Cx) (b : Bs) (Γ : Ctx) (e : Expr) (s : Sl) : Prop := ∃ te, PE X e te ∧ EvS b Γ te s ∧ ∀ (i : Nat) (y : Str) (py spos : Pos), X.N[i]? = some y → X.env.scope.names.lookup y = some .local → swapsWith e (some (.Name y py)) spos.line X.env = pure true → PS X (.Assign [.Name y py] e spos) (tAsg te (gName i))
theorem LV.ev {s : Sl} (h : LV X b Γ e s) : EV X b Γ e s := by
  obtain ⟨te, h1, h2, _⟩ := h
  exact EV.of h1 h2
theorem HT.setC {D : EndC} {s : Sl} {y : Str} {py spos : Pos} {rest : List Stmt} (i : Nat) (h : LV X b Γ e s) (k : HT X b D (Γ.set i (some s)) rest) (hsw : swapsWith e (some (.Name y py)) spos.line X.env = pure true) (hi : X.N[i]? = some y := by rfl) (hy : X.env.scope.names.lookup y = some .local := by rfl) : HT X b D Γ (.Assign [.Name y py] e spos :: rest) := by
  obtain ⟨te, _, h2, h3⟩ := h
  exact HT.step (h3 i y py spos hi hy hsw) fun σ F H ⟨l, g, d⟩ => h2 σ F H l g d _ fun v F' H' l' w p f => k _ _ _ (Sg.put i g d w p f)
/-- what stands in a comprehension's turn -/
structure Cv (b : Bs) (F1 H1 : Hp) (Γ : Ctx) (σ : L2.St) (D : Addr) (l : List Addr) (F' H' : Hp) : Prop where
  g : SgL F' H' Γ σ l
  d : Gd ⟨F1, b.B⟩ F' H' l
  w : Gw F1 H1 F' H'
  nl : D ∉ l
  nB : b.B D = none
  nF : F' D = none
  nH : H1 D = none
theorem Cv.grow {F1 H1 F' H' F2 H2 : Hp} {σ : L2.St} {D : Addr} {l : List Addr} (c : Cv b F1 H1 Γ σ D l F' H') (hD : H' D ≠ none) (w : Gw F' H' F2 H2) : Cv b F1 H1 Γ σ D l F2 H2 :=
  ⟨c.g.grow w, c.d.grow c.g.t w, c.w.trans w, c.nl, c.nB, w.k D c.nF hD, c.nH⟩
theorem Cv.upd {F1 H1 F' H' : Hp} {σ : L2.St} {D : Addr} {l : List Addr} {o : HO} (c : Cv b F1 H1 Γ σ D l F' H') : Cv b F1 H1 Γ σ D l F' (upd H' D o) :=
  ⟨SgL.m (Ex.refl F') (fun a ha => upd_ne fun z => c.nl (z ▸ ha)) c.g, ⟨c.d.ef, Ex.mut c.d.eb c.nB, Ex.mut c.d.e c.nF, c.d.k, c.d.nd, c.d.of, c.d.ob⟩, ⟨c.w.f, Ex.mut c.w.h c.nH, Ex.mut c.w.e c.nF, c.w.k⟩, c.nl, c.nB, c.nF, c.nH⟩
theorem wipe1 {σ : L2.St} {j : Nat} : wipe σ [j] = σ.set j none := rfl
theorem EvS.lcG (out : Nat → Option γ) {tt : TT} {wi : TI} (k1 : ∀ σ F H l, SgL F H Γ σ l → Gd b F H l → ∀ R : It → Hp → Prop, (∀ J F1 H1, Gw F H F1 H1 → ItOk J F1 m IR → R J H1) → wi σ H R) (hm : m ≤ 100000)
    (ht : ∀ b' i y, b'.B = b.B → i < m → IR i y → TvS b' ((Γ.set j none).set j (some (im y.R y.a))) tt (out i).isSome)
    (he : ∀ b' i y s H0 C cl fp z, b'.B = b.B → i < m → IR i y → out i = some z → EV (X.blk s H0 scope (compEnvC scope cl C X.env) fp) b' ((Γ.set j none).set j (some (im y.R y.a))) elt (im S z)) :
    EvS b Γ (tLc wi (gName j) tt (wEb X scope elt) ([(n, j)].map (·.2))) (ow S ((List.range m).filterMap out)) := fun σ F H l g d Q q => by
  refine k1 σ F H l g d _ fun J F1 H1 w ⟨G, Y, W, hG, hY⟩ D hD => ?_
  have d1 := d.grow g.t w
  have g1 := g.grow w
  obtain ⟨l2, g2, nd2, sub2⟩ := SgL.put (o' := none) (w := none) (l' := []) trivial List.nodup_nil j g1 d1.nd (fun _ h => nomatch h)
  have sub2 : ∀ a ∈ l2, a ∈ l := fun a ha => by
    rcases sub2 a ha with z | z
    · exact z
    · cases z
  have d2 : Gd ⟨F1, b.B⟩ F1 H1 l2 := d1.self.of_l nd2 fun a ha => ⟨d1.of a (sub2 a ha), d1.ob a (sub2 a ha)⟩
  have nB : b.B D = none := ex_none d1.eb hD
  have nF : F1 D = none := ex_none d1.e hD
  have nl : D ∉ l2 := fun z => g1.t D (sub2 D z) hD
  have c0 : Cv b F1 H1 (Γ.set j none) (σ.set j none) D l2 F1 (upd H1 D (.lst [])) := Cv.upd ⟨g2, d2, Gw.refl d1.e, nl, nB, nF, hD⟩
  show ∃ W : Nat → Nat → Hp → Prop, _
  refine lc_it W (fun i H' => ∃ F' acc, Cv b F1 H1 (Γ.set j none) (σ.set j none) D l2 F' H' ∧ H' D = some (.lst acc) ∧ All2 (S.r F') acc ((List.range i).filterMap out) ∧ i ≤ m) ⟨F1, [], c0, upd_same, .nil, Nat.zero_le _⟩ (fun i H' _ ⟨F', acc, c, _, _, _⟩ => hG F' H' c.d.ef c.d.e)
    (fun i v H' H'' hi ⟨F', acc, c, ha, hall, hm'⟩ y => ?_) (fun H' ⟨F', acc, c, ha, hall, _⟩ => q (.ref D) F' H' [D] (w.trans c.w) ⟨D, acc, rfl, rfl, ha, hall⟩ fun a h => by rw [List.mem_singleton.mp h]; exact ⟨ex_none w.h hD, c.nF⟩)
  obtain ⟨F'', y0, w', r1, r2⟩ := hY i F' H' v H'' hi c.d.ef c.d.e y
  have hDn : H' D ≠ none := by rw [ha]; exact fun z => nomatch z
  have c2 := c.grow hDn w'
  have ha2 : H'' D = some (.lst acc) := w'.h D _ ha
  show wipe ((σ.set j none).set j (some v)) [j] = wipe σ [j] ∧ tt ((σ.set j none).set j (some v)) H'' fun b H3 => _
  refine ⟨by rw [wipe1, wipe1, List.set_set, List.set_set], ?_⟩
  obtain ⟨l3, g3, nd3, sub3⟩ := SgL.put (o' := some (im y0.R y0.a)) (w := some v) (l' := []) ⟨v, rfl, rfl, r2⟩ List.nodup_nil j c2.g c2.d.nd (fun _ h => nomatch h)
  have sub3 : ∀ a ∈ l3, a ∈ l2 := fun a ha => by
    rcases sub3 a ha with z | z
    · exact z
    · cases z
  have d3 : Gd ⟨F1, b.B⟩ F'' H'' l3 := c2.d.of_l nd3 fun a ha => ⟨c2.d.of a (sub3 a ha), c2.d.ob a (sub3 a ha)⟩
  refine ht ⟨F1, b.B⟩ i y0 rfl hi r1 _ F'' H'' l3 g3 d3 _ fun F3 H3 w3 => ?_
  have hD2 : H'' D ≠ none := by rw [ha2]; exact fun z => nomatch z
  have c3 := c2.grow hD2 w3
  cases ho : out i with
  | none =>
    refine ⟨F3, acc, c3, w3.h D _ ha2, ?_, hi⟩
    rw [List.range_succ, List.filterMap_append]
    simp only [List.filterMap_cons, ho, List.filterMap_nil, List.append_nil]
    exact hall.imp fun _ _ => S.m (w'.f.trans w3.f)
  | some z =>
    intro s H0 C cl fp
    refine he ⟨F1, b.B⟩ i y0 s H0 C cl fp z rfl hi r1 ho _ F3 H3 l3 (g3.grow w3) (d3.grow g3.t w3) _ fun u F4 H4 l4 w4 p4 _ => ?_
    have hD3 : H3 D ≠ none := by rw [w3.h D _ ha2]; exact fun z => nomatch z
    have c4 := c3.grow hD3 w4
    have a4 := w4.h D _ (w3.h D _ ha2)
    have all4 : All2 (S.r F4) acc ((List.range i).filterMap out) := hall.imp fun _ _ => S.m ((w'.f.trans w3.f).trans w4.f)
    have hl : acc.length ≤ i := by
      rw [hall.len]
      refine Nat.le_trans (List.length_filterMap_le _ _) ?_
      rw [List.length_range]; omega
    refine ⟨acc, a4, sz_lt (by omega), F4, acc ++ [u], c4.upd, upd_same, ?_, hi⟩
    rw [List.range_succ, List.filterMap_append]
    simp only [List.filterMap_cons, ho, List.filterMap_nil]
    exact all4.app (.cons p4.2 .nil)
theorem LV.lcG (out : Nat → Option γ) {ifs : List Expr} {tt : TT} (hi : IV X b Γ (.Name n np) iter m IR) (nd : X.N.Nodup) (ok : blkC X.N X.env.scope scope [(n, j)] = true) (hm : m ≤ 100000) (hp : ∀ (s : Shared) (H0 : Hp) (C : Addr) (cl : List (Str × Addr)) (fp : List Addr), PTs (X.blk s H0 scope (compEnvC scope cl C X.env) fp) ifs tt)
    (ht : ∀ b' i y, b'.B = b.B → i < m → IR i y → TvS b' ((Γ.set j none).set j (some (im y.R y.a))) tt (out i).isSome)
    (he : ∀ b' i y s H0 C cl fp z, b'.B = b.B → i < m → IR i y → out i = some z → EV (X.blk s H0 scope (compEnvC scope cl C X.env) fp) b' ((Γ.set j none).set j (some (im y.R y.a))) elt (im S z))
    (hg : ∀ (s : Shared) (H0 : Hp) (C : Addr) (cl : List (Str × Addr)) (fp : List Addr), PG (X.blk s H0 scope (compEnvC scope cl C X.env) fp) (.Name n np) (gName j)) (hc : X.calm = true) (hf : ∀ x, foldedSetIterable iter X.env x = pure x) :
    LV X b Γ (.ListComp elt [⟨.Name n np, iter, ifs, 0⟩] scope pos) (ow S ((List.range m).filterMap out)) := by
  obtain ⟨wi, p1, k1⟩ := hi
  exact ⟨_, pe_lc (own := [(n, j)]) (g := gName j) (tt := tt) (te := wEb X scope elt) hc nd p1 (blkOk_by ok) hg hp (fun _ _ _ _ _ => pe_wb) hf, EvS.lcG (n := n) out k1 hm ht he, fun i y py spos hi hy hsw => ps_setLc (own := [(n, j)]) (g := gName j) (tt := tt) (te := wEb X scope elt) hc nd hi hy hsw p1 (blkOk_by ok) hg hp (fun _ _ _ _ _ => pe_wb) hf⟩
theorem TvS.blk {c : Bool} (h : ∀ (s : Shared) (H0 : Hp) (C : Addr) (cl : List (Str × Addr)) (fp : List Addr), TV (X.blk s H0 scope (compEnvC scope cl C X.env) fp) b Γ e c) : TvS b Γ (wTb X scope e) c := fun σ F H l g d Q q s H0 C cl fp => h s H0 C cl fp σ F H l g d Q q
theorem TvS.yes : TvS b Γ tYes true := fun σ F H l g d Q q => q F H (Gw.refl d.e)
theorem fm_congr {α β : Type} {f g : α → Option β} : ∀ {l : List α}, (∀ a ∈ l, f a = g a) → l.filterMap f = l.filterMap g
  | [], _ => rfl
  | a :: l, h => by
    rw [List.filterMap_cons, List.filterMap_cons, h a List.mem_cons_self, fm_congr fun b hb => h b (List.mem_cons_of_mem _ hb)]
theorem range_map {α β : Type} (as : List α) (f : α → β) (g : Nat → Option β) (h : ∀ i a, as[i]? = some a → g i = some (f a)) : (List.range as.length).filterMap g = as.map f := by
  apply List.ext_getElem?
  intro i
  have : (List.range as.length).filterMap g = (List.range as.length).filterMap (fun i => as[i]?.map f) := by
    apply fm_congr
    intro i hi
    have hi := List.mem_range.mp hi
    rw [h i as[i] (List.getElem?_eq_getElem hi), List.getElem?_eq_getElem hi]; rfl
  rw [this]
  clear this
  have key : ∀ as : List α, (List.range as.length).filterMap (fun i => as[i]?.map f) = as.map f := by
    intro as
    induction as with
    | nil => rfl
    | cons a as ih =>
      rw [List.length_cons, List.range_succ_eq_map, List.filterMap_cons, List.filterMap_map]
      simp only [List.getElem?_cons_zero, Option.map_some, List.map_cons]
      rw [← ih]
      rfl
  rw [key]
theorem range_filter {α β : Type} (as : List α) (p : α → Bool) (f : α → β) (g : Nat → Option β) (h : ∀ i a, as[i]? = some a → g i = if p a then some (f a) else none) : (List.range as.length).filterMap g = (as.filter p).map f := by
  have : (List.range as.length).filterMap g = (List.range as.length).filterMap (fun i => as[i]?.bind fun a => if p a then some (f a) else none) := by
    apply fm_congr
    intro i hi
    have hi := List.mem_range.mp hi
    rw [h i as[i] (List.getElem?_eq_getElem hi), List.getElem?_eq_getElem hi]; rfl
  rw [this]
  clear this h
  induction as with
  | nil => rfl
  | cons a as ih =>
    rw [List.length_cons, List.range_succ_eq_map, List.filterMap_cons, List.filterMap_map]
    simp only [List.getElem?_cons_zero, Option.bind_some]
    have e : (fun i => (a :: as)[i]?.bind fun a => if p a then some (f a) else none) ∘ Nat.succ = (fun i => as[i]?.bind fun a => if p a then some (f a) else none) := by
      funext i; simp
    rw [e, ih]
    by_cases hp : p a = true
    · simp [hp]
    · simp [hp]
abbrev Sb (Γ : Ctx) (j : Nat) (y : Im) : Ctx := (Γ.set j none).set j (some (im y.R y.a))
theorem LV.lcL0 (f : α → γ) (hi : IV X b Γ (.Name n np) iter as.length (IL R as)) (nd : X.N.Nodup) (ok : blkC X.N X.env.scope scope [(n, j)] = true) (hm : as.length ≤ 100000)
    (he : ∀ (b' : Bs) (i : Nat) (a : α) s H0 C cl fp, b'.B = b.B → as[i]? = some a → EV (X.blk s H0 scope (compEnvC scope cl C X.env) fp) b' (Sb Γ j (mk R a)) elt (im S (f a)))
    (hg : ∀ (s : Shared) (H0 : Hp) (C : Addr) (cl : List (Str × Addr)) (fp : List Addr), PG (X.blk s H0 scope (compEnvC scope cl C X.env) fp) (.Name n np) (gName j)) (hc : X.calm = true := by rfl) (hf : ∀ x, foldedSetIterable iter X.env x = pure x := by intro _; rfl) :
    LV X b Γ (.ListComp elt [⟨.Name n np, iter, [], 0⟩] scope pos) (ow S (as.map f)) := by
  have h := LV.lcG (X := X) (elt := elt) (pos := pos) (S := S) (fun i => as[i]?.map f) (tt := tYes) hi nd ok hm (fun _ _ _ _ _ => pts_nil) (fun b' i y hb hi hy => by
      obtain ⟨a, h1, rfl⟩ := hy
      rw [h1]; exact TvS.yes) (fun b' i y s H0 C cl fp z hb hi hy hz => by
      obtain ⟨a, h1, rfl⟩ := hy
      rw [h1] at hz
      cases hz
      exact he b' i a s H0 C cl fp hb h1) hg hc hf
  rwa [range_map as f _ (fun i a h => by rw [h]; rfl)] at h
theorem LV.lcL1 {tst : Expr} (p : α → Bool) (f : α → γ) (hi : IV X b Γ (.Name n np) iter as.length (IL R as)) (nd : X.N.Nodup) (ok : blkC X.N X.env.scope scope [(n, j)] = true) (hm : as.length ≤ 100000)
    (ht : ∀ (b' : Bs) (i : Nat) (a : α) s H0 C cl fp, b'.B = b.B → as[i]? = some a → TV (X.blk s H0 scope (compEnvC scope cl C X.env) fp) b' (Sb Γ j (mk R a)) tst (p a))
    (he : ∀ (b' : Bs) (i : Nat) (a : α) s H0 C cl fp, b'.B = b.B → as[i]? = some a → p a = true → EV (X.blk s H0 scope (compEnvC scope cl C X.env) fp) b' (Sb Γ j (mk R a)) elt (im S (f a)))
    (hg : ∀ (s : Shared) (H0 : Hp) (C : Addr) (cl : List (Str × Addr)) (fp : List Addr), PG (X.blk s H0 scope (compEnvC scope cl C X.env) fp) (.Name n np) (gName j)) (hc : X.calm = true := by rfl) (hf : ∀ x, foldedSetIterable iter X.env x = pure x := by intro _; rfl) :
    LV X b Γ (.ListComp elt [⟨.Name n np, iter, [tst], 0⟩] scope pos) (ow S ((as.filter p).map f)) := by
  have h := LV.lcG (X := X) (elt := elt) (pos := pos) (S := S) (fun i => as[i]?.bind fun a => if p a then some (f a) else none) hi nd ok hm (fun _ _ _ _ _ => pts_one pt_wb) (fun b' i y hb hi hy => by
      obtain ⟨a, h1, rfl⟩ := hy
      have q := ht b' i a
      rw [h1, Option.bind_some]
      have e : (if p a then some (f a) else none).isSome = p a := by cases p a <;> rfl
      rw [e]
      exact TvS.blk fun s H0 C cl fp => q s H0 C cl fp hb h1) (fun b' i y s H0 C cl fp z hb hi hy hz => by
      obtain ⟨a, h1, rfl⟩ := hy
      rw [h1, Option.bind_some] at hz
      by_cases hp : p a = true
      · rw [if_pos hp] at hz
        cases hz
        exact he b' i a s H0 C cl fp hb h1 hp
      · rw [if_neg hp] at hz; cases hz) hg hc hf
  rwa [range_filter as p f _ (fun i a h => by rw [h]; rfl)] at h
theorem LV.lcR1 {tst : Expr} (p : Nat → Bool) (f : Nat → γ) (hi : IV X b Γ (.Name n np) iter m IRz) (nd : X.N.Nodup) (ok : blkC X.N X.env.scope scope [(n, j)] = true) (hm : m ≤ 100000)
    (ht : ∀ b' i s H0 C cl fp, b'.B = b.B → i < m → TV (X.blk s H0 scope (compEnvC scope cl C X.env) fp) b' (Sb Γ j (mk rI (i : Int))) tst (p i))
    (he : ∀ b' i s H0 C cl fp, b'.B = b.B → i < m → p i = true → EV (X.blk s H0 scope (compEnvC scope cl C X.env) fp) b' (Sb Γ j (mk rI (i : Int))) elt (im S (f i)))
    (hg : ∀ (s : Shared) (H0 : Hp) (C : Addr) (cl : List (Str × Addr)) (fp : List Addr), PG (X.blk s H0 scope (compEnvC scope cl C X.env) fp) (.Name n np) (gName j)) (hc : X.calm = true := by rfl) (hf : ∀ x, foldedSetIterable iter X.env x = pure x := by intro _; rfl) :
    LV X b Γ (.ListComp elt [⟨.Name n np, iter, [tst], 0⟩] scope pos) (ow S (((List.range m).filter p).map f)) := by
  have h := LV.lcG (X := X) (elt := elt) (pos := pos) (S := S) (fun i => if p i then some (f i) else none) hi nd ok hm (fun _ _ _ _ _ => pts_one pt_wb) (fun b' i y hb hi hy => by
      have hy : y = mk rI (i : Int) := hy
      subst hy
      have e : (if p i then some (f i) else none).isSome = p i := by cases p i <;> rfl
      rw [e]
      exact TvS.blk fun s H0 C cl fp => ht b' i s H0 C cl fp hb hi) (fun b' i y s H0 C cl fp z hb hi hy hz => by
      have hy : y = mk rI (i : Int) := hy
      subst hy
      by_cases hp : p i = true
      · rw [if_pos hp] at hz
        cases hz
        exact he b' i s H0 C cl fp hb hi hp
      · rw [if_neg hp] at hz; cases hz) hg hc hf
  have e : (List.range m).filterMap (fun i => if p i then some (f i) else none) = ((List.range m).filter p).map f := by
    induction List.range m with
    | nil => rfl
    | cons a r ih =>
      rw [List.filterMap_cons, List.filter_cons, ih]
      by_cases hp : p a = true
      · simp [hp]
      · simp [hp]
  rwa [e] at h
end
end Lg

namespace Lg
open PySem L2 Evl PyProof.Rows
/-! ### promises -/
inductive Rs where
  | ok (s : Sl)
  | err (C : Addr)
/-- from data to a result or an error of an own class -/
def spX {ι : Type} (A : ι → List Im) (pre : ι → Prop) (res : ι → Rs) : Sp := fun vs H Q E => ∃ (i : ι) (F : Hp), Ex F H ∧ Ims F vs (A i) ∧ pre i ∧
  (∀ s, res i = .ok s → ∀ v F' H' l', Gw F H F' H' → s.P F' H' v l' → (∀ a ∈ l', H a = none ∧ F' a = none) → Q v H') ∧ (∀ C, res i = .err C → ∀ H', Ex H H' → E (.ref C) none H')
/-- __init__: the new instance first; what it holds behind is told by S -/
def spI {ι β : Type} (C : Addr) (A : ι → List Im) (pre : ι → Prop) (S : Rl β) (res : ι → Except Addr β) : Sp := fun vs H Q E => ∃ (i : ι) (F H0 : Hp) (x dx : Addr) (vs' : List V), vs = .ref x :: vs' ∧ H0 x = none ∧ H0 dx = none ∧ dx ≠ x ∧ H = upd (upd H0 dx (.own x)) x (.ins C dx []) ∧ Ex F H0 ∧ Ims F vs' (A i) ∧ pre i ∧
  (∀ y, res i = .ok y → ∀ F' H', Gw F H0 F' H' → S.r F' (.ref x) y → Q .non H') ∧ (∀ C', res i = .error C' → ∀ H', Ex H0 H' → E (.ref C') none H')
section
variable {X : Cx} {CX : CXT} {k : Nat} {f C : Addr} {fd : FuncData} {ps : List Str} {sp : Sp} {E : L2.St → XK} {x m : Str} {p pos apos : Pos} {e o : Expr} {es : List Expr} {ta : TE} {t : TA}
def tMakeS (C : Addr) (sp : Sp) (E : L2.St → XK) (t : TA) : TE := fun σ H Q => t σ H fun vs H1 => ∀ x dx, H1 x = none → H1 dx = none → dx ≠ x → sp (.ref x :: vs) (upd (upd H1 dx (.own x)) x (.ins C dx [])) (fun v H2 => v = .non ∧ Q (.ref x) H2) (E σ)
theorem pe_makeS (M : Mk X.K C f) (F : FnOk X.prog X.w X.K X.mg X.base CX k f fd ps sp) (hr : Room (k + 1) X.A) (hg : Gl X x) (hm : X.mg x = some (.ref C)) (hb : Binds X.K fd ps []) (hx : ∀ σ, PassesAt CX X σ (E σ))
    (ha : PA X (e :: es) t) (hdb : (x == ("__debug__" : Str)) = false := by decide) (he : starEach (e :: es) X.env = (false, eval e X.env) :: starEach es X.env := by rfl) (hpl : (backTo pos (starEach es X.env)).any (·.1) = false := by rfl) :
    PE X (.Call (.Name x p) (e :: es) [] pos) (tMakeS C sp E t) := by
  refine ⟨fun pins s σ H Q I h => ?_⟩
  refine wpAny_Call_Name_kw (ld_glob I hg hm ?_ hdb)
  refine PySem.W.callWith_K (h₀ := X.base) I.ok.mod.kin M.kp (thn (ha.run pos pins s σ H _ I h) fun us s1 ⟨vs, H1, I1, r, q⟩ => ⟨I1.kIn, ?_⟩) he hpl
  have hq := q (s1.heap.objs.size + 1) s1.heap.objs.size (I1.hok.fresh (Nat.le_succ _)) (I1.hok.fresh (Nat.le_refl _)) (Nat.ne_of_lt (Nat.lt_succ_self _))
  have I2 := Inv.made (C := C) I1
  have r2 : Vals (V.ref (s1.heap.objs.size + 1) :: vs) (Value.ref (s1.heap.objs.size + 1) :: us) := .cons rfl r
  have hl : (Value.ref (s1.heap.objs.size + 1) :: us).length = ps.length := by
    rw [← r2.length]; exact F.len _ _ _ _ hq
  have hbb := hb { s1 with heap := (s1.heap.push { cls := .type "dict", data := .dict #[] }).push (PySem.W.instObj C s1.heap.objs.size) } (Value.ref (s1.heap.objs.size + 1) :: us) I2.kIn (by rw [List.append_nil]; exact hl)
  rw [List.append_nil] at hbb
  refine wpAny_call (make_map (f := f) I1.kIn M.makes M.init (beq_iff_eq.mp M.fn) (codeAny_mono (F.run _ X.stack _ _ ⟨Value.ref (s1.heap.objs.size + 1) :: us, []⟩ (Value.ref (s1.heap.objs.size + 1) :: us) _ _ (E σ) (hr.make C us [])
    (I2.env0.make C us []) hbb r2 hq) fun r s' hq' => ?_))
  cases r with
  | error e => exact hx σ pins _ _ e s' I2 hq'
  | ok fl =>
    cases fl with
    | ret u =>
      obtain ⟨v, H', I3, rv, ev, q3⟩ := I2.after hq'
      subst ev
      exact ⟨rv, ⟨V.ref (s1.heap.objs.size + 1), H', I3, rfl, q3⟩⟩
    | next => exact False.elim hq'
    | brk => exact False.elim hq'
    | cont => exact False.elim hq'
def tMethX (C : Addr) (m : Str) (sp : Sp) (E : L2.St → XK) (ta : TE) (t : TA) : TE := fun σ H Q => ta σ H fun x H1 => ∃ a dx fs, x = .ref a ∧ H1 a = some (.ins C dx fs) ∧ fs.lookup m = none ∧ t σ H1 fun vs H2 => sp (x :: vs) H2 Q (E σ)
theorem pe_methX {pl : Sem Bool} (he : PE X o ta) (c : Cls X.K C) (hm : Meth X.K C m f) (F : FnOk X.prog X.w X.K X.mg X.base CX k f fd ps sp) (hr : Room k X.A) (hb : Binds X.K fd ps []) (hx : ∀ σ, PassesAt CX X σ (E σ)) (ha : PA X (e :: es) t)
    (hst : starEach (e :: es) X.env = (false, eval e X.env) :: starEach es X.env := by rfl) (hpl : (backTo pos (starEach es X.env)).any (·.1) = false := by rfl)
    (ht : eval (.Call (.Attribute o m apos) (e :: es) [] pos) X.env = (do
      let ov ← eval o X.env
      standAt apos.atName
      let (f, first) ← holding [ov] (getMethod ov m pl)
      callWith pos f first (backTo pos (starEach (e :: es) X.env)) (backToKw pos (keywordEach [] X.env))) := by rfl) :
    PE X (.Call (.Attribute o m apos) (e :: es) [] pos) (tMethX C m sp E ta t) := by
  refine ⟨fun pins s σ H Q I h => ?_⟩
  refine PySem.W.methodCall_KW (pl := pl) (thn (he.run pins s σ H _ I h) fun u s1 ⟨x, H1, I1, rx, a, dx, fs, ex, ea, l, q⟩ => ?_) ht
  subst ex
  obtain rfl : u = Value.ref a := rx
  refine getmeth_ok I1 ea c hm l ?_
  refine PySem.W.callWith_K (first := [.ref a]) (h₀ := X.base) I.ok.mod.kin hm.kp (thn (ha.run pos pins s1 σ H1 _ I1 q) fun us s2 ⟨vs, H2, I2, r, q2⟩ => ⟨I2.kIn, ?_⟩) hst hpl
  exact run_fnS (us := .ref a :: us) (vs := .ref a :: vs) F hr hb (hx σ) I2 (.cons rfl r) q2
theorem pe_methX0 {pl : Sem Bool} (he : PE X o ta) (c : Cls X.K C) (hm : Meth X.K C m f) (F : FnOk X.prog X.w X.K X.mg X.base CX k f fd ps sp) (hr : Room k X.A) (hb : Binds X.K fd ps []) (hx : ∀ σ, PassesAt CX X σ (E σ))
    (ht : eval (.Call (.Attribute o m apos) [] [] pos) X.env = (do
      let ov ← eval o X.env
      standAt apos.atName
      let (f, first) ← holding [ov] (getMethod ov m pl)
      callWith pos f first (backTo pos (starEach [] X.env)) (backToKw pos (keywordEach [] X.env))) := by rfl) :
    PE X (.Call (.Attribute o m apos) [] [] pos) (tMethX C m sp E ta tNil) := by
  refine ⟨fun pins s σ H Q I h => ?_⟩
  refine PySem.W.methodCall_KW (pl := pl) (thn (he.run pins s σ H _ I h) fun u s1 ⟨x, H1, I1, rx, a, dx, fs, ex, ea, l, q⟩ => ?_) ht
  subst ex
  obtain rfl : u = Value.ref a := rx
  refine getmeth_ok I1 ea c hm l ?_
  exact PySem.W.callWith_K0 (first := [.ref a]) I1.kIn hm.kp (run_fnS (us := [.ref a]) (vs := [.ref a]) F hr hb (hx σ) I1 (.cons rfl .nil) q)
end
/-- what is known of a def, a method, a class that is made -/
structure Kn (P : Program) (w : World) (K : PySem.W.Frag) (mg : Str → Option Value) (base : Heap) (k : Nat) (x : Str) (ps : List Str) (sp : Sp) : Prop where
  ex : ∃ f fd, FnOk P w K mg base (L2N.CX P w) k f fd ps sp ∧ mg x = some (.ref f) ∧ PySem.W.keepIn K (.ref f) = true ∧ Binds K fd ps []
structure KnM (P : Program) (w : World) (K : PySem.W.Frag) (mg : Str → Option Value) (base : Heap) (k : Nat) (C : Addr) (m : Str) (ps : List Str) (sp : Sp) : Prop where
  ex : ∃ f fd, FnOk P w K mg base (L2N.CX P w) k f fd ps sp ∧ Meth K C m f ∧ Binds K fd ps []
  cl : Cls K C
structure KnI (P : Program) (w : World) (K : PySem.W.Frag) (mg : Str → Option Value) (base : Heap) (k : Nat) (C : Addr) (x : Str) (ps : List Str) (sp : Sp) : Prop where
  ex : ∃ f fd, FnOk P w K mg base (L2N.CX P w) k f fd ps sp ∧ Mk K C f ∧ mg x = some (.ref C) ∧ Binds K fd ps []
/-- at what Γ tells, an error of the class C is wished for -/
def Xw (b : Bs) (Γ : Ctx) (W : WX) (C : Addr) : Prop := ∀ σ F H, Sg b Γ σ F H → W (.ref C) none σ H
theorem Ex.gw {F H H' : Hp} (e : Ex F H) (h : Ex H H') : Gw F H F H' := ⟨Ex.refl F, h, e.trans h, fun _ h _ => h⟩
section
variable {X : Cx} {b : Bs} {Γ : Ctx} {k : Nat} {x m : Str} {ps : List Str} {ι β : Type} {A : ι → List Im} {pre : ι → Prop} {res : ι → Rs} {i : ι} {s : Sl} {e o : Expr} {es : List Expr} {p pos apos : Pos} {W : WX} {C : Addr}
theorem EV.callR (T : Kn X.prog X.w X.K X.mg X.base k x ps (spX A pre res)) (hr : Room k X.A) (tk : L2N.Takes X W) (ha : AV X b Γ (e :: es) (A i)) (hp : pre i) (h1 : ∀ s', res i = .ok s' → s' = s) (h2 : ∀ C, res i = .err C → Xw b Γ W C) (hg : Gl X x := by rfl)
    (hdb : (x == ("__debug__" : Str)) = false := by decide) (he : starEach (e :: es) X.env = (false, eval e X.env) :: starEach es X.env := by rfl) (hpl : (backTo pos (starEach es X.env)).any (·.1) = false := by rfl) : EV X b Γ (.Call (.Name x p) (e :: es) [] pos) s := by
  obtain ⟨ta, p1, p2⟩ := ha
  obtain ⟨f, fd, F, hm, hk, hb⟩ := T.ex
  refine EV.of (pe_callS F hr hg hm hk hb (fun σ => L2N.passAt tk σ) p1 hdb he hpl) fun σ F H l g d Q q => p2 σ F H l g d _ fun vs F1 H1 w hv => ?_
  refine ⟨i, F1, w.e, hv, hp, fun s' hs v F' H' l' w' p f => ?_, fun C hC H' h => ?_⟩
  · rw [h1 s' hs] at p
    exact q v F' H' l' (w.trans w') p fun a ha => ⟨ex_none w.h (f a ha).1, (f a ha).2⟩
  · have w2 := w.trans (Ex.gw w.e h)
    exact h2 C hC σ F1 H' ⟨l, g.grow w2, d.grow g.t w2⟩
theorem EV.call (T : Kn X.prog X.w X.K X.mg X.base k x ps (spX A pre res)) (hr : Room k X.A) (tk : L2N.Takes X W) (ha : AV X b Γ (e :: es) (A i)) (hp : pre i) (h1 : res i = .ok s) (hg : Gl X x := by rfl)
    (hdb : (x == ("__debug__" : Str)) = false := by decide) (he : starEach (e :: es) X.env = (false, eval e X.env) :: starEach es X.env := by rfl) (hpl : (backTo pos (starEach es X.env)).any (·.1) = false := by rfl) : EV X b Γ (.Call (.Name x p) (e :: es) [] pos) s :=
  EV.callR T hr tk ha hp (fun s' h => by rw [h1] at h; cases h; rfl) (fun C h => by rw [h1] at h; cases h) hg hdb he hpl
/-- o.m() -/
theorem EV.meth0 {β : Type} {R : Rl β} {y : β} {pl : Sem Bool} (T : KnM X.prog X.w X.K X.mg X.base k C m ps (spX A pre res)) (hr : Room k X.A) (tk : L2N.Takes X W) (ho : EV X b Γ o (im R y)) (hR : ∀ F v, R.r F v y → ∃ a dx fs, v = .ref a ∧ F a = some (.ins C dx fs) ∧ fs.lookup m = none) (hA : A i = [mk R y]) (hp : pre i) (h1 : res i = .ok s)
    (ht : eval (.Call (.Attribute o m apos) [] [] pos) X.env = (do
      let ov ← eval o X.env
      standAt apos.atName
      let (f, first) ← holding [ov] (getMethod ov m pl)
      callWith pos f first (backTo pos (starEach [] X.env)) (backToKw pos (keywordEach [] X.env))) := by rfl) : EV X b Γ (.Call (.Attribute o m apos) [] [] pos) s := by
  obtain ⟨f, fd, F, hm, hb⟩ := T.ex
  refine EV.of (pe_methX0 pe_w T.cl hm F hr hb (fun σ => L2N.passAt tk σ) ht) fun σ F H l g d Q q => ho σ F H l g d _ fun v F1 H1 l1 w ⟨_, hv⟩ _ => ?_
  obtain ⟨a, dx, fs, rfl, ha, hl⟩ := hR F1 v hv
  refine ⟨a, dx, fs, rfl, w.e a _ ha, hl, i, F1, w.e, by rw [hA]; exact .cons hv .nil, hp, fun s' hs v F' H' l' w' p f => ?_, fun C hC H' h => ?_⟩
  · rw [h1] at hs
    cases hs
    exact q v F' H' l' (w.trans w') p fun a ha => ⟨ex_none w.h (f a ha).1, (f a ha).2⟩
  · rw [h1] at hC; cases hC
/-- C(..) -/
theorem EV.make {S : Rl β} {y : β} {ri : ι → Except Addr β} (T : KnI X.prog X.w X.K X.mg X.base k C x ps (spI C A pre S ri)) (hr : Room (k + 1) X.A) (tk : L2N.Takes X W) (ha : AV X b Γ (e :: es) (A i)) (hp : pre i) (h1 : ∀ y', ri i = .ok y' → y' = y) (h2 : ∀ C, ri i = .error C → Xw b Γ W C) (hg : Gl X x := by rfl)
    (hdb : (x == ("__debug__" : Str)) = false := by decide) (he : starEach (e :: es) X.env = (false, eval e X.env) :: starEach es X.env := by rfl) (hpl : (backTo pos (starEach es X.env)).any (·.1) = false := by rfl) : EV X b Γ (.Call (.Name x p) (e :: es) [] pos) (im S y) := by
  obtain ⟨ta, p1, p2⟩ := ha
  obtain ⟨f, fd, F, hM, hm, hb⟩ := T.ex
  refine EV.of (pe_makeS hM F hr hg hm hb (fun σ => L2N.passAt tk σ) p1 hdb he hpl) (EvS.mki fun σ F H l g d Q q => p2 σ F H l g d _ fun vs F1 H1 w hv => ?_)
  refine fun x dx hx hdx ne => ⟨i, F1, H1, x, dx, vs, rfl, hx, hdx, ne, rfl, w.e, hv, hp, fun y' hy F' H' w' p => ?_, fun C hC H' h => ?_⟩
  · rw [h1 y' hy] at p
    exact ⟨rfl, q _ F' H' (w.trans w') p⟩
  · have w2 := w.trans (Ex.gw w.e h)
    exact h2 C hC σ F1 H' ⟨l, g.grow w2, d.grow g.t w2⟩
end
/-- a def by its body, for any way of telling what it lets out -/
theorem okN {CX : CXT} {P : Program} {w : World} {K : PySem.W.Frag} {mg : Str → Option Value} {base : Heap} {x qual : Str} {st : Stmt} {f : Addr} {fd : FuncData} {N ps : List Str} {k : Nat} {sp : Sp} (F : Fun K x qual st f fd) (S : FnScope N ps (defScope st)) (hl : ∀ vs H Q E, sp vs H Q E → vs.length = ps.length)
    (hb : ∀ (cdv : Value) (A : Around) (outer : List Env) (s : Shared) (H : Hp) (vs : List V) (Q : VK) (E : XK), Room k (A.deeper (envOfC qual (defScope st) s.heap.objs.size f cdv)) → sp vs H Q E → ∃ t, PSs (cxOf CX P w K mg base N qual (defScope st) f cdv A outer s H E) (defBody st) t ∧ t { nx := fun _ H' => Q .non H', rt := Q } (L2.start N vs) H) :
    FnOk P w K mg base CX (k + 1) f fd ps sp := by
  obtain ⟨oc, od, kV, dc, pm, an, cdv, ct, sl, e, lk, hcd⟩ := F.ex
  rw [e] at *
  exact fn_of lk hcd S hl (hb cdv)
/-! ### a def keeps its promise -/
def c0 (xs : List Im) (n : Nat) : Ctx := xs.map (fun x => some x.sl) ++ List.replicate n none
theorem SgL.args {F H : Hp} : ∀ {vs : List V} {xs : List Im} (n : Nat), Ims F vs xs → SgL F H (c0 xs n) (vs.map some ++ List.replicate n none) []
  | _, _, n, .nil => by
    show SgL F H (List.replicate n none) (List.replicate n none) []
    induction n with
    | zero => rfl
    | succ n ih => exact ih
  | _, _, n, .cons h t => ⟨_, [], [], rfl, rfl, ⟨rfl, h⟩, SgL.args n t⟩
section
variable {P : Program} {w : World} {K : PySem.W.Frag} {mg : Str → Option Value} {base : Heap} {x qual : Str} {st : Stmt} {f : Addr} {fd : FuncData} {N ps : List Str} {k : Nat} {ι β : Type} {A : ι → List Im} {pre : ι → Prop} {res : ι → Rs}
theorem fn_ok (F : Fun K x qual st f fd) (S : FnScope N ps (defScope st)) (hA : ∀ i, (A i).length = ps.length)
    (body : ∀ (i : ι) (B : Bs) (cdv : Value) (A' : Around) (outer : List Env) (s : Shared) (H : Hp) (E : XK), pre i → Room k (A'.deeper (envOfC qual (defScope st) s.heap.objs.size f cdv)) → (∀ C, res i = .err C → ∀ H', Ex B.B H' → E (.ref C) none H') →
      HT (cxOf (L2N.CX P w) P w K mg base N qual (defScope st) f cdv A' outer s H E) B ⟨fun _ => res i = .ok (im rU ()), fun s => res i = .ok s, fun _ => False, fun _ => False⟩ (c0 (A i) (N.length - ps.length)) (defBody st)) :
    FnOk P w K mg base (L2N.CX P w) (k + 1) f fd ps (spX A pre res) := by
  refine okN F S (fun vs H Q E ⟨i, F, _, hv, _⟩ => by rw [hv.len, hA i]) fun cdv A' outer s H vs Q E hr ⟨i, F0, hF, hv, hp, h1, h2⟩ => ⟨_, pss_w, ?_⟩
  have hn : vs.length = ps.length := by rw [hv.len, hA i]
  have g0 : Sg ⟨F0, H⟩ (c0 (A i) (N.length - ps.length)) (L2.start N vs) F0 H := ⟨[], by
    unfold L2.start
    rw [hn]
    exact SgL.args _ hv, Ex.refl _, Ex.refl _, hF, fun _ h _ => h, List.nodup_nil, fun _ h => (nomatch h), fun _ h => nomatch h⟩
  refine wS.mono (body i ⟨F0, H⟩ cdv A' outer s H E hp hr h2 _ F0 H g0) (fun σ' H' h => ?_) (fun v H' h => ?_) (fun _ _ h => ?_) (fun _ _ h => ?_)
  · obtain ⟨Γ, F', ⟨l, _, d⟩, h⟩ := h
    exact h1 _ h .non F' H' [] ⟨d.ef, d.eb, d.e, fun a q1 q2 => d.k a q1 q2⟩ ⟨rfl, rfl⟩ fun _ h => nomatch h
  · obtain ⟨s', F', l, p, d, h⟩ := h
    exact h1 _ h v F' H' l ⟨d.ef, d.eb, d.e, fun a q1 q2 => d.k a q1 q2⟩ p fun a ha => ⟨d.ob a ha, d.of a ha⟩
  · obtain ⟨_, _, _, h⟩ := h; exact h.elim
  · obtain ⟨_, _, _, h⟩ := h; exact h.elim
end
end Lg

namespace Lg
open PySem L2 Evl PyProof.Rows
/-! ### objects of one's own classes -/
inductive Fls (F : Hp) : List (Str × V) → List (Str × Im) → Prop
  | nil : Fls F [] []
  | cons {f : Str} {v : V} {x : Im} {ws : List (Str × V)} {xs : List (Str × Im)} : x.R.r F v x.a → Fls F ws xs → Fls F ((f, v) :: ws) ((f, x) :: xs)
theorem Fls.m {F F' : Hp} (e : Ex F F') : ∀ {ws xs}, Fls F ws xs → Fls F' ws xs
  | _, _, .nil => .nil
  | _, _, .cons h t => .cons (Rl.m _ e h) (t.m e)
theorem Fls.look {F : Hp} : ∀ {ws : List (Str × V)} {xs : List (Str × Im)} {f : Str}, Fls F ws xs → match xs.lookup f with | none => ws.lookup f = none | some x => ∃ v, ws.lookup f = some v ∧ x.R.r F v x.a
  | _, _, f, .nil => rfl
  | _, _, f, .cons (f := g) (v := v) (x := x) h t => by
    rw [List.lookup_cons, List.lookup_cons]
    cases f == g with
    | true => exact ⟨v, rfl, h⟩
    | false => exact t.look
theorem Fls.len {F : Hp} : ∀ {ws xs}, Fls F ws xs → ws.length = xs.length
  | _, _, .nil => rfl
  | _, _, .cons _ t => by simp [t.len]
/-- an instance whose fields are data -/
def rObj {α : Type} (C : Addr) (fs : α → List (Str × Im)) : Rl α :=
  ⟨fun F v x => ∃ a dx ws, v = .ref a ∧ F a = some (.ins C dx ws) ∧ Fls F ws (fs x), fun {F F' v x} e ⟨a, dx, ws, h1, h2, h3⟩ => ⟨a, dx, ws, h1, e a _ h2, h3.m e⟩⟩
/-- the instance in the making -/
def ob (C a : Addr) (fs : List (Str × Im)) : Sl where
  P := fun F H v l => ∃ dx ws, v = .ref a ∧ l = [a] ∧ H a = some (.ins C dx ws) ∧ Fls F ws fs
  m := fun e k ⟨dx, ws, h1, h2, h3, h4⟩ => ⟨dx, ws, h1, h2, by rw [k a (by rw [h2]; exact List.mem_singleton.mpr rfl)]; exact h3, h4.m e⟩
  t := fun ⟨dx, ws, h1, h2, h3, h4⟩ c hc => by
    rw [h2] at hc
    rw [List.mem_singleton.mp hc, h3]
    exact fun z => nomatch z
  d := fun ⟨dx, ws, h1, h2, h3, h4⟩ => by rw [h2]; simp
def putI (f : Str) (x : Im) : List (Str × Im) → List (Str × Im)
  | [] => [(f, x)]
  | (g, y) :: r => if g = f then (f, x) :: r else (g, y) :: putI f x r
theorem Fls.put {F : Hp} {f : Str} {v : V} {x : Im} (h : x.R.r F v x.a) : ∀ {ws xs}, Fls F ws xs → Fls F (putF f v ws) (putI f x xs)
  | _, _, .nil => .cons h .nil
  | _, _, .cons (f := g) (v := u) (ws := ws) (x := y) (xs := xs) h1 t => by
    unfold putF putI
    by_cases z : g = f
    · rw [if_pos z, if_pos z]; first | exact .cons h t | (subst z; exact .cons h t)
    · rw [if_neg z, if_neg z]; exact .cons h1 (Fls.put h t)
section
variable {X : Cx} {b : Bs} {D : EndC} {Γ : Ctx} {α β : Type} {R : Rl α} {S : Rl β} {x : α} {y : β} {C : Addr} {fs : α → List (Str × Im)} {fl : List (Str × Im)} {f n : Str} {e : Expr} {pos np tp : Pos} {rest : List Stmt} {i : Nat}
theorem EV.fld (hc : Cls X.K C) (h : EV X b Γ e (im (rObj C fs) x)) (hl : (fs x).lookup f = some (mk S y)) (hn : NoAttr X.K C f) (hb : attributeBase e f X.env (eval e X.env) = eval e X.env := by rfl) : EV X b Γ (.Attribute e f pos) (im S y) :=
  EV.of (pe_fld pe_w hb) (EvS.mki fun σ F H l g d Q q => h σ F H l g d _ fun v F1 H1 l1 w ⟨_, a, dx, ws, h1, h2, h3⟩ _ => by
    have k := h3.look (f := f)
    rw [hl] at k
    obtain ⟨u, k1, k2⟩ := k
    exact ⟨a, C, dx, ws, u, h1, w.e a _ h2, hc, hn, k1, q u F1 H1 w k2⟩)
theorem rObj.no {F : Hp} {v : V} {m : Str} (h : (rObj C fs).r F v x) (hm : (fs x).lookup m = none) : ∃ a dx ws, v = .ref a ∧ F a = some (.ins C dx ws) ∧ ws.lookup m = none := by
  obtain ⟨a, dx, ws, h1, h2, h3⟩ := h
  have k := h3.look (f := m)
  rw [hm] at k
  exact ⟨a, dx, ws, h1, h2, k⟩
/-- self.f = e, in __init__ -/
theorem HT.fld {a : Addr} (hc : Cls X.K C) (i : Nat) (hΓ : Γ[i]? = some (some (ob C a fl))) (he : EV X b Γ e (im S y)) (hn : NoAttr X.K C f) (hz : fl.length < 1000) (k : HT X b D (Γ.set i (some (ob C a (putI f (mk S y) fl)))) rest) (hN : X.N[i]? = some n := by rfl) (hv : Vis X.env.scope n := by first | exact Or.inl rfl | exact Or.inr (Or.inl rfl) | exact Or.inr (Or.inr rfl))
    (hd : (n == ("__debug__" : Str)) = false := by decide) (hcd : (n == ("__classdict__" : Str)) = false := by decide) (hs : swapsWith e (some (.Attribute (.Name n np) f tp)) pos.line X.env = pure false := by rfl) : HT X b D Γ (.Assign [.Attribute (.Name n np) f tp] e pos :: rest) :=
  HT.step (ps_fld (pe_var hN hv hd hcd) pe_w hs) fun σ F H ⟨l, g, d⟩ => he σ F H l g d _ fun v F1 H1 l1 w1 p1 _ => by
    have g1 := g.grow w1
    have d1 := d.grow g.t w1
    obtain ⟨u, l2, h1, ⟨dx, ws, rfl, rfl, h4, h5⟩, h6, h7⟩ := g1.mod d1.nd hΓ
    have ha := h6 a (List.mem_singleton.mpr rfl)
    refine ⟨_, h1, a, C, dx, ws, rfl, h4, hc, hn, by rw [h5.len]; exact hz, k σ F1 _ ⟨l, h7 _ _ (fun c hc => upd_ne fun z => hc (List.mem_singleton.mpr z)) ⟨dx, _, rfl, rfl, upd_same, Fls.put (x := mk S y) p1.2 h5⟩, d1.ef, Ex.mut d1.eb (d1.ob a ha), Ex.mut d1.e (d1.of a ha), d1.k, d1.nd, d1.of, d1.ob⟩⟩
end
section
variable {P : Program} {w : World} {K : PySem.W.Frag} {mg : Str → Option Value} {base : Heap} {x qual : Str} {st : Stmt} {f C : Addr} {fd : FuncData} {N ps : List Str} {k : Nat} {ι β : Type} {A : ι → List Im} {pre : ι → Prop} {res : ι → Except Addr β} {fs : β → List (Str × Im)}
theorem fn_init (F : Fun K x qual st f fd) (S : FnScope N ps (defScope st)) (hA : ∀ i, (A i).length + 1 = ps.length)
    (body : ∀ (i : ι) (B : Bs) (a : Addr) (cdv : Value) (A' : Around) (outer : List Env) (s : Shared) (H : Hp) (E : XK), pre i → Room k (A'.deeper (envOfC qual (defScope st) s.heap.objs.size f cdv)) → (∀ C', res i = .error C' → ∀ H', Ex B.B H' → E (.ref C') none H') →
      HT (cxOf (L2N.CX P w) P w K mg base N qual (defScope st) f cdv A' outer s H E) B ⟨fun Γ => ∃ y fl, res i = .ok y ∧ Γ[0]? = some (some (ob C a fl)) ∧ fl = fs y, fun _ => False, fun _ => False, fun _ => False⟩ (some (ob C a []) :: c0 (A i) (N.length - ps.length)) (defBody st)) :
    FnOk P w K mg base (L2N.CX P w) (k + 1) f fd ps (spI C A pre (rObj C fs) res) := by
  refine okN F S (fun vs H Q E ⟨i, F, H0, a, dx, vs', e, _, _, _, _, _, hv, _⟩ => by rw [e, List.length_cons, hv.len, hA i]) fun cdv A' outer s H vs Q E hr ⟨i, F0, H0, a, dx, vs', hvs, ha, hdx, hne, hH, hF, hv, hp, h1, h2⟩ => ⟨_, pss_w, ?_⟩
  have hn : vs.length = ps.length := by rw [hvs, List.length_cons, hv.len, hA i]
  have hdn : (upd H0 dx (.own a)) a = none := by rw [upd_ne hne.symm]; exact ha
  have g0 : Sg ⟨F0, upd H0 dx (.own a)⟩ (some (ob C a []) :: c0 (A i) (N.length - ps.length)) (L2.start N vs) F0 H := ⟨[a], by
    unfold L2.start
    rw [hn, hvs]
    exact ⟨.ref a, [a], [], rfl, rfl, ⟨dx, [], rfl, rfl, by rw [hH]; exact upd_same, .nil⟩, SgL.args _ hv⟩, Ex.refl _, by rw [hH]; exact Ex.new hdn, (hF.trans (Ex.new hdx)).trans (by rw [hH]; exact Ex.new hdn), fun _ h _ => h, by simp, fun c hc => by
    rw [List.mem_singleton.mp hc]; exact ex_none hF ha, fun c hc => by rw [List.mem_singleton.mp hc]; exact hdn⟩
  refine wS.mono (body i ⟨F0, upd H0 dx (.own a)⟩ a cdv A' outer s H E hp hr (fun C' hC H' h => h2 C' hC H' ((Ex.new hdx).trans h)) _ F0 H g0) (fun σ' H' h => ?_) (fun v H' h => ?_) (fun _ _ h => ?_) (fun _ _ h => ?_)
  · obtain ⟨Γ, F', ⟨l, g, d⟩, y, fl, hy, hΓ, hfl⟩ := h
    obtain ⟨v, l1, q1, ⟨dx', ws, rfl, rfl, q4, q5⟩, q6⟩ := g.get hΓ
    have la := q6 a (List.mem_singleton.mpr rfl)
    have fa := d.of a la
    refine h1 y hy (upd F' a (.ins C dx' ws)) H' ⟨d.ef.trans (Ex.new fa), (Ex.new hdx).trans d.eb, fun c u hc => ?_, fun c z1 z2 => ?_⟩ ⟨a, dx', ws, rfl, upd_same, by rw [← hfl]; exact q5.m (Ex.new fa)⟩
    · by_cases z : c = a
      · subst z; rw [upd_same] at hc; rw [q4]; exact hc
      · rw [upd_ne z] at hc; exact d.e c u hc
    · rw [upd_ne fun z => z2 (by rw [z]; exact ha)]
      exact d.k c z1 (ex_some (Ex.new hdx) z2)
  · obtain ⟨_, _, _, _, _, h⟩ := h; exact h.elim
  · obtain ⟨_, _, _, h⟩ := h; exact h.elim
  · obtain ⟨_, _, _, h⟩ := h; exact h.elim
end
end Lg

namespace Lg
open PySem L2 Evl PyProof.Rows
/-! ### errors -/
/-- X(e), the context None -/
theorem pmk_own1N {X : Cx} {C : Addr} {bmB : List Value} {B nid iid : String} {x : Str} {e : Expr} {t : TE} {p p' : Pos} (FB : ExcBaseFacts B nid iid bmB) (hq : PySem.W.excIn X.K C bmB nid = true) (hm : X.mg x = some (.ref C)) (hk : PySem.W.keepIn X.K (.ref C) = true) (r : Raises X (.ref C)) (hg : Gl X x) (he : PE X e t)
    (hs : starEach [e] X.env = (false, eval e X.env) :: starEach [] X.env := by rfl) (hd : (x == ("__debug__" : Str)) = false := by decide) : L2N.PMk X (.Call (.Name x p) [e] [] p') (fun σ H Q => t σ H fun _ H1 => Q (.ref C) none H1) := fun pins s σ H Q I h => by
  refine wpAny_Call_Name_kw (ld_glob I hg hm (PySem.W.callWith_K (h₀ := X.base) I.ok.mod.kin hk ?_ hs (by rfl)) hd)
  rw [hs]
  refine Calls.spliced_cons (thn (he.run pins s σ H _ I h) fun u s1 ⟨v, H1, I1, r1, q1⟩ => Calls.spliced_nil ⟨I1.kIn, ?_⟩)
  obtain ⟨_, _, _, _, _, _, _, _, _, _, _, _, _, _, _, _, _, hC, hN, hni, T⟩ := exc_obj I1.kIn hq
  exact wpAny_call_exc_subT FB T hC hN hni (fun h' a hx => L2N.mk_of I1 hx r q1 (I1.hok.gone hx.new)) (by rw [sizeLine_eq]; exact (by decide : 1 ≤ 16777216))
/-- nothing is let out there -/
theorem takesN0 {X : Cx} : L2N.Takes X (fun _ _ _ _ => False) := fun _ _ ⟨_, _, _, _, _, _, _, _, _, _, _, _, _, _, _, _, z⟩ => z.elim

/-- an error class of one's own (over ValueError, no __init__ of its own) -/
structure ErrC (K : PySem.W.Frag) (mg : Str → Option Value) (x : Str) (C : Addr) : Prop where
  q : PySem.W.excIn K C [.type "ValueError", .type "Exception", .type "BaseException", .type "object"] "ValueError.__new__" = true
  g : mg x = some (.ref C)
  k : PySem.W.keepIn K (.ref C) = true
  b : PySem.W.subIn K (.ref C) (.type "BaseException") = some true
  t : PySem.W.typeIn K (.ref C) = some (.type "type")
section
variable {X : Cx} {b : Bs} {D : EndC} {Γ : Ctx} {α β : Type} {R : Rl α} {S : Rl β} {x : α} {y : β} {C CB : Addr} {f n nx : Str} {e : Expr} {pos np tp p pos' : Pos} {rest bd suite : List Stmt} {i : Nat} {s : Sl} {W Wout : WX} {bm : List Value} {B newId initId : String} {b₀ : Stmt}
theorem HT.raise (T : ErrC X.K X.mg nx C) (tk : L2N.Takes X W) (he : EV X b Γ e s) (hW : Xw b Γ W C) (hc : X.calm = true := by rfl) (hg : Gl X nx := by rfl) (hse : starEach [e] X.env = (false, eval e X.env) :: starEach [] X.env := by rfl) (hdb : (nx == ("__debug__" : Str)) = false := by decide) : HT X b D Γ (.Raise (some (.Call (.Name nx p) [e] [] pos')) none pos :: rest) :=
  HT.step (L2N.ps_raise hc tk (pmk_own1N PySem.F.excBase_ValueError T.q T.g T.k (raises_own T.b T.t) hg pe_w hse hdb)) fun σ F H ⟨l, g, d⟩ => he σ F H l g d _ fun v F' H' l' w p f => hW σ F' H' ⟨l, g.grow w, d.grow g.t w⟩
/-- try: .. except x as n: .. -/
theorem HT.tryAs (i : Nat) (hc : Names X nx (.ref CB)) (tk : L2N.Takes X Wout)
    (hb : ∀ (W : WX) (pn : List (Addr × Obj)) (xe : Value → Shared → Prop), L2N.Takes (X.tr pn xe) W → PassesOwn (model X.prog X.w) X.A X.env xe →
      (∀ (Γ' : Ctx) (C : Addr) (b' : Bs), Up b b' → PySem.W.exmOne X.K (.ref C) (.ref CB) = some true → (∀ (a : Addr) (oe : Obj) (pn : List (Addr × Obj)), L2N.Zn (.ref C) none oe → (∃ vs, oe.data = .fields vs) →
        HT (X.suite a ((a, oe) :: pn)) b ⟨fun Γ => HT X b D (Γ.set i none) rest, D.rt, fun Γ => D.bk (Γ.set i none), fun Γ => D.ct (Γ.set i none)⟩ (Γ'.set i (some (vx (.ref a)))) (b₀ :: suite)) → Xw b' Γ' W C) →
      HT (X.tr pn xe) b (D.into X b rest) Γ bd)
    (nd : X.N.Nodup) (hs : X.stack = X.env :: X.outer := by rfl) (hf : X.env.frame = some X.env.locals := by rfl) (hi : X.N[i]? = some n := by rfl) (hln : X.env.kindOf n = some .local := by rfl) :
    HT X b D Γ (.Try bd [.ExceptHandler (some (.Name nx np)) (some n) (b₀ :: suite) pos'] [] [] pos :: rest) :=
  HT.step (L2N.ps_try_as (tb := fun W D σ H => ∀ pn xe, L2N.Takes (X.tr pn xe) W → PassesOwn (model X.prog X.w) X.A X.env xe → wS (X.tr pn xe) bd D σ H) (ts := fun a cls d D σ H => ∀ oe pn, L2N.Zn cls d oe → (∃ vs, oe.data = .fields vs) → wS (X.suite a ((a, oe) :: pn)) (b₀ :: suite) D σ H)
    hs hf nd hi hln hc tk (fun W pn xe tk po => ⟨fun pins s σ H D I h => h pn xe tk po pins s I⟩) (fun a oe cls d pn hz hv => ⟨fun pins s σ H D I h => h oe pn hz hv pins s I⟩)) fun σ F H g pn xe tk2 po => by
    refine HT.into (hb _ pn xe tk2 po (fun Γ' C b' u hex hsu σ' F' H' g' => ?_) σ F H g)
    have g' := u.sg g'
    refine ⟨true, hex, fun _ a ha oe pn2 hz hv => ?_, fun z => nomatch z⟩
    have fa : F' a = none := by
      obtain ⟨l, _, d⟩ := g'
      exact ex_none d.e ha
    have back : ∀ (Q : Ctx → Prop) σ2 H2, At b (fun Γ => Q (Γ.set i none)) σ2 H2 → At b Q (σ2.set i none) H2 := fun Q σ2 H2 ⟨Γ2, F2, ⟨l, g2, d2⟩, q⟩ => by
      obtain ⟨l2, k1, k2, k3⟩ := SgL.put (o' := none) (w := none) (l' := []) trivial List.nodup_nil i g2 d2.nd (fun _ h => nomatch h)
      exact ⟨_, F2, ⟨l2, k1, d2.of_l k2 fun a ha => by
        rcases k3 a ha with z | z
        · exact ⟨d2.of a z, d2.ob a z⟩
        · cases z⟩, q⟩
    refine wS.mono (hsu a oe pn2 hz hv _ F' H' (Sg.put0 i g' ⟨rfl, rfl⟩)) (fun σ2 H2 h => ?_) (fun _ _ h => h) (fun σ2 H2 h => back _ σ2 H2 h) (fun σ2 H2 h => back _ σ2 H2 h)
    obtain ⟨Γ3, F3, g3, h3⟩ := back (fun Γ => HT X b D Γ rest) σ2 H2 h
    exact h3 _ F3 H2 g3
/-- isinstance(e, K) of the error that a suite holds -/
theorem EV.isE {a D C' : Addr} {oe : Obj} {pn : List (Addr × Obj)} {c : Bool} {cx : Str} {p1 p2 p3 : Pos} (E : ExcC X.K D) (hz : L2N.Zn (.ref D) none oe) (hf : ∃ vs, oe.data = .fields vs) (i : Nat) (hΓ : Γ[i]? = some (some (vx (.ref a)))) (hm : X.mg "isinstance" = none) (hC : X.mg cx = some (.ref C')) (hk : PySem.W.kitOne X.K (.ref D) (.ref C') = some c)
    (hN : X.N[i]? = some n := by rfl) (hv : Vis X.env.scope n := by first | exact Or.inl rfl | exact Or.inr (Or.inl rfl) | exact Or.inr (Or.inr rfl)) (hg : Gl X "isinstance" := by rfl) (hgc : Gl X cx := by rfl)
    (hd : (n == ("__debug__" : Str)) = false := by decide) (hcd : (n == ("__classdict__" : Str)) = false := by decide) (hdc : (cx == ("__debug__" : Str)) = false := by decide) :
    EV (X.suite a ((a, oe) :: pn)) b Γ (.Call (.Name "isinstance" p1) [.Name n p2, .Name cx p3] [] pos) (im rB c) :=
  EV.of (pe_callB (X := X.suite a ((a, oe) :: pn)) (call_isE E hz.zc hf) hg hm (by decide +kernel) (pa_cons (pe_var hN hv hd hcd) (pa_cons (pe_glob (v := .ref C') hgc hC rfl hdc) pa_nil))) (EvS.mki fun σ F H l g d Q q => by
    obtain ⟨v, l1, h1, h2, _⟩ := g.get hΓ
    refine ⟨v, h1, .ref C', .ref C', c, by rw [h2.2], fun u hu => hu, hk, q _ F H (Gw.refl d.e) rfl⟩)
end
/-! ### built-ins -/
theorem truth_ints {prog : Program} {w : World} {A : Around} {is : List Int} {its : List Value} (e : IntsAre its is) :
    TruthOf prog w A (fun i v => its.toArray[i]? = some v) (fun i => is.getD i 0 != 0) := fun i v s Q E hv hq => by
  have hv' : its[i]? = some v := by simpa using hv
  have key : ∀ {its : List Value} {is : List Int} {i : Nat} {v : Value}, IntsAre its is → its[i]? = some v → ∃ t, v = Value.int (is.getD i 0) t := by
    intro its is i v h
    induction h generalizing i with
    | nil => intro h; simp at h
    | cons n t _ ih =>
      intro h
      cases i with
      | zero => simp at h; subst h; exact ⟨_, rfl⟩
      | succ i => exact ih (by simpa using h)
  obtain ⟨t, rfl⟩ := key e hv'
  exact PyProof.Rows.truthy_int hq
theorem anyI_range : ∀ is : List Int, (List.range is.length).any (fun i => is.getD i 0 != 0) = is.any (· != 0)
  | [] => rfl
  | b :: bs => by
    rw [List.length_cons, List.range_succ_eq_map, List.any_cons, List.any_map, List.any_cons, ← anyI_range bs]
    all_goals rfl
def rAnyI (K : PySem.W.Frag) : List V → Hp → VK → Prop := fun vs H Q => ∃ (a : Addr) (is : List Int), vs = [V.ref a] ∧ SqL K H a (is.map V.int) ∧ Q (.bl (is.any (· != 0))) H
theorem cr_anyI {X : Cx} (hc : X.calm = true) : CallR X (.builtin "any") (rAnyI X.K) := by
  intro pins s σ H vs us Q I r h
  obtain ⟨a, is, rfl, hs, q⟩ := h
  obtain ⟨its, rv, hl, _⟩ := I.list hs
  rw [Vals.ref1 r]
  have hb := rv.ints
  have hlen := rv.length
  refine call_any_walk (iter_any hl.isList fun s₂ e2 st hne => ?_)
  subst e2
  refine ⟨_, _, _, _, _, _, _, rfl, Walks.list (A := X.A.in1) (I.ok.hd hc) _ a hne its.toArray, st, truth_ints hb, fun h' tk hk => ?_⟩
  refine ⟨.bl _, H, I.kept fun b o eo => hk b o (fun hmem => ?_) (Heap.get?_push_of_some _ eo), ?_, q⟩
  · rcases List.mem_cons.mp hmem with e1 | hmem
    · exact absurd (e1 ▸ Heap.lt_size eo) (Nat.lt_irrefl _)
    · cases hmem
  · show Value.bool _ = Value.bool _
    rw [← anyI_range, List.size_toArray, ← hlen, List.length_map]
theorem all2_ints : ∀ {xs : List V} {is : List Int} {F : Hp}, All2 (rI.r F) xs is → xs = is.map V.int
  | _, _, _, .nil => rfl
  | _, _, _, .cons h t => by rw [show _ = V.int _ from h, all2_ints t]; rfl
theorem all2_bls : ∀ {xs : List V} {is : List Bool} {F : Hp}, All2 (rB.r F) xs is → xs = is.map V.bl
  | _, _, _, .nil => rfl
  | _, _, _, .cons h t => by rw [show _ = V.bl _ from h, all2_bls t]; rfl
theorem all2_strs : ∀ {xs : List V} {is : List Str} {F : Hp}, All2 (rS.r F) xs is → xs = is.map V.str
  | _, _, _, .nil => rfl
  | _, _, _, .cons h t => by rw [show _ = V.str _ from h, all2_strs t]; rfl
section
variable {X : Cx} {b : Bs} {D : EndC} {Γ : Ctx} {α β γ : Type} {R : Rl α} {S : Rl β} {T : Rl γ} {x : α} {y : β} {z : γ} {as : List α} {n : Str} {e e1 e2 : Expr} {es : List Expr} {pos np p : Pos} {i : Nat} {s : Sl} {is : List Int} {i1 i2 : Int}
/-- what a one-argument call asks of the data: nothing new -/
theorem EV.c1 {r : List V → Hp → VK → Prop} (ha : AV X b Γ [e] [mk R x]) (h2 : ∀ {t : TA}, PA X [e] t → PE X (.Call (.Name n p) [e] [] pos) (tCB r t)) (hr : ∀ F H v, Ex F H → R.r F v x → ∀ Q : VK, (∀ u, T.r F u z → Q u H) → r [v] H Q) : EV X b Γ (.Call (.Name n p) [e] [] pos) (im T z) := by
  obtain ⟨ta, p1, p2⟩ := ha
  refine EV.of (h2 p1) (EvS.mki fun σ F H l g d Q q => p2 σ F H l g d _ fun vs F1 H1 w hv => ?_)
  obtain ⟨v, rfl, hv1⟩ := ims1 hv
  exact hr F1 H1 v w.e hv1 Q fun u hu => q u F1 H1 w hu
theorem EV.c2 {r : List V → Hp → VK → Prop} (ha : AV X b Γ [e1, e2] [mk R x, mk S y]) (h2 : ∀ {t : TA}, PA X [e1, e2] t → PE X (.Call (.Name n p) [e1, e2] [] pos) (tCB r t)) (hr : ∀ F H v w, Ex F H → R.r F v x → S.r F w y → ∀ Q : VK, (∀ u, T.r F u z → Q u H) → r [v, w] H Q) : EV X b Γ (.Call (.Name n p) [e1, e2] [] pos) (im T z) := by
  obtain ⟨ta, p1, p2⟩ := ha
  refine EV.of (h2 p1) (EvS.mki fun σ F H l g d Q q => p2 σ F H l g d _ fun vs F1 H1 w hv => ?_)
  obtain ⟨v, u, rfl, hv1, hu1⟩ := ims2 hv
  exact hr F1 H1 v u w.e hv1 hu1 Q fun u hu => q u F1 H1 w hu
section
variable (hst : starEach [e] X.env = (false, eval e X.env) :: starEach [] X.env)
end
/-- B: a built-in function by its name -/
theorem EV.cB {idS : String} {r : List V → Hp → VK → Prop} (hc : CallR X (.builtin idS) r) (ha : AV X b Γ [e] [mk R x]) (hm : X.mg n = none) (hv : bootBuiltins n = some (.builtin idS)) (hr : ∀ F H v, Ex F H → R.r F v x → ∀ Q : VK, (∀ u, T.r F u z → Q u H) → r [v] H Q) (hg : Gl X n) (hn : n ≠ "__name__") (hd : (n == ("__debug__" : Str)) = false)
    (hp : ∀ {t : TA}, PA X [e] t → PE X (.Call (.Name n p) [e] [] pos) (tCB r t)) : EV X b Γ (.Call (.Name n p) [e] [] pos) (im T z) := EV.c1 ha hp hr
theorem EV.abs (ha : AV X b Γ [e] [mk rI i1]) (hm : X.mg "abs" = none) (hg : Gl X "abs" := by rfl) (he : starEach [e] X.env = (false, eval e X.env) :: starEach [] X.env := by rfl) : EV X b Γ (.Call (.Name "abs" p) [e] [] pos) (im rI (if i1 < 0 then -i1 else i1)) :=
  EV.c1 ha (fun h => pe_callB call_abs hg hm (by decide +kernel) h (he := he) (hpl := rfl)) fun F H v _ h Q q => ⟨i1, by rw [show v = V.int i1 from h], q _ rfl⟩
theorem EV.toInt (ha : AV X b Γ [e] [mk rI i1]) (hm : X.mg "int" = none) (hg : Gl X "int" := by rfl) (he : starEach [e] X.env = (false, eval e X.env) :: starEach [] X.env := by rfl) : EV X b Γ (.Call (.Name "int" p) [e] [] pos) (im rI i1) :=
  EV.c1 ha (fun h => pe_callTy call_int1 hg hm (by decide +kernel) h (he := he) (hpl := rfl)) fun F H v _ h Q q => .inl ⟨i1, by rw [show v = V.int i1 from h], q _ rfl⟩
theorem EV.lenL (ha : AV X b Γ [e] [mk (rL R) as]) (hm : X.mg "len" = none) (hg : Gl X "len" := by rfl) (he : starEach [e] X.env = (false, eval e X.env) :: starEach [] X.env := by rfl) : EV X b Γ (.Call (.Name "len" p) [e] [] pos) (im rI (as.length : Int)) :=
  EV.c1 ha (fun h => pe_callB call_len_seq hg hm (by decide +kernel) h (he := he) (hpl := rfl)) fun F H v ef ⟨a, xs, h1, h2, h3⟩ Q q => ⟨a, xs, by rw [h1], .inl (SqL.of (ef a _ h2)), q _ (by show V.int (xs.length : Int) = V.int _; rw [h3.len])⟩
theorem EV.lenT (ha : AV X b Γ [e] [mk (rT R) as]) (hm : X.mg "len" = none) (hg : Gl X "len" := by rfl) (he : starEach [e] X.env = (false, eval e X.env) :: starEach [] X.env := by rfl) : EV X b Γ (.Call (.Name "len" p) [e] [] pos) (im rI (as.length : Int)) :=
  EV.c1 ha (fun h => pe_callB call_len_seq hg hm (by decide +kernel) h (he := he) (hpl := rfl)) fun F H v ef ⟨a, xs, h1, h2, h3⟩ Q q => ⟨a, xs, by rw [h1], .inr (SqT.of (ef a _ h2)), q _ (by show V.int (xs.length : Int) = V.int _; rw [h3.len])⟩
theorem EV.lenSc (ha : AV X b Γ [e] [mk (rSc X.K) is]) (hm : X.mg "len" = none) (hg : Gl X "len" := by rfl) (he : starEach [e] X.env = (false, eval e X.env) :: starEach [] X.env := by rfl) : EV X b Γ (.Call (.Name "len" p) [e] [] pos) (im rI (is.length : Int)) :=
  EV.c1 ha (fun h => pe_callB call_len_seq hg hm (by decide +kernel) h (he := he) (hpl := rfl)) fun F H v ef ⟨a, h1, h2⟩ Q q => ⟨a, _, by rw [h1], .inl (ex_l ef h2), q _ (by show V.int ((is.map V.int).length : Int) = V.int _; rw [List.length_map])⟩
theorem EV.lenS {z : Str} (ha : AV X b Γ [e] [mk rS z]) (hz : z.length ≤ sizeLine) (hm : X.mg "len" = none) (hg : Gl X "len" := by rfl) (he : starEach [e] X.env = (false, eval e X.env) :: starEach [] X.env := by rfl) : EV X b Γ (.Call (.Name "len" p) [e] [] pos) (im rI (z.length : Int)) :=
  EV.c1 ha (fun h => pe_callB call_len_str hg hm (by decide +kernel) h (he := he) (hpl := rfl)) fun F H v ef h Q q => ⟨z, by rw [show v = V.str z from h], hz, q _ rfl⟩
theorem EV.sum (ha : AV X b Γ [e] [mk (rL rI) is]) (hm : X.mg "sum" = none) (hg : Gl X "sum" := by rfl) (hc : X.calm = true := by rfl) (he : starEach [e] X.env = (false, eval e X.env) :: starEach [] X.env := by rfl) : EV X b Γ (.Call (.Name "sum" p) [e] [] pos) (im rI is.sum) :=
  EV.c1 ha (fun h => pe_callB (cr_sum hc) hg hm (by decide +kernel) h (he := he) (hpl := rfl)) fun F H v ef ⟨a, xs, h1, h2, h3⟩ Q q => ⟨a, is, by rw [h1], by rw [← all2_ints h3]; exact SqL.of (ef a _ h2), q _ rfl⟩
theorem EV.anyI (ha : AV X b Γ [e] [mk (rL rI) is]) (hm : X.mg "any" = none) (hg : Gl X "any" := by rfl) (hc : X.calm = true := by rfl) (he : starEach [e] X.env = (false, eval e X.env) :: starEach [] X.env := by rfl) : EV X b Γ (.Call (.Name "any" p) [e] [] pos) (im rB (is.any (· != 0))) :=
  EV.c1 ha (fun h => pe_callB (cr_anyI hc) hg hm (by decide +kernel) h (he := he) (hpl := rfl)) fun F H v ef ⟨a, xs, h1, h2, h3⟩ Q q => ⟨a, is, by rw [h1], by rw [← all2_ints h3]; exact SqL.of (ef a _ h2), q _ rfl⟩
theorem EV.max2 (ha : AV X b Γ [e1, e2] [mk rI i1, mk rI i2]) (hm : X.mg "max" = none) (hg : Gl X "max" := by rfl) (hc : X.calm = true := by rfl) (he : starEach [e1, e2] X.env = (false, eval e1 X.env) :: starEach [e2] X.env := by rfl) (hpl : (backTo pos (starEach [e2] X.env)).any (·.1) = false := by rfl) : EV X b Γ (.Call (.Name "max" p) [e1, e2] [] pos) (im rI (if i2 > i1 then i2 else i1)) :=
  EV.c2 ha (fun h => pe_callB (call_max2 hc) hg hm (by decide +kernel) h (he := he) (hpl := hpl)) fun F H v u ef h1 h2 Q q => ⟨i1, i2, by rw [show v = V.int i1 from h1, show u = V.int i2 from h2], q _ rfl⟩
/-- list(xs): a new one, one's own -/
theorem EV.listOf (ha : AV X b Γ [e] [mk (rL R) as]) (hm : X.mg "list" = none) (hg : Gl X "list" := by rfl) (he : starEach [e] X.env = (false, eval e X.env) :: starEach [] X.env := by rfl) : EV X b Γ (.Call (.Name "list" p) [e] [] pos) (ow R as) := by
  obtain ⟨ta, p1, p2⟩ := ha
  refine EV.of (pe_callTy call_list_of hg hm (by decide +kernel) p1 (he := he) (hpl := rfl)) fun σ F H l g d Q q => p2 σ F H l g d _ fun vs F1 H1 w hv => ?_
  obtain ⟨v, rfl, a, xs, rfl, h2, h3⟩ := ims1 hv
  exact ⟨a, xs, rfl, .inl (SqL.of (w.e a _ h2)), fun c hc => q _ F1 _ [c] (w.trans (Gw.own w.e hc)) ⟨c, xs, rfl, rfl, upd_same, h3⟩ fun c' hc' => by rw [List.mem_singleton.mp hc']; exact ⟨ex_none w.h hc, ex_none w.e hc⟩⟩
/-- xs + ys, xs * k, xs[a:] -/
theorem EV.cat {bs : List α} (ha : EV X b Γ e1 (im (rL R) as)) (hb : EV X b Γ e2 (im (rL R) bs)) (hz : as.length + bs.length ≤ 100000) : EV X b Γ (.BinOp e1 .Add e2 pos) (ow R (as ++ bs)) :=
  EV.of (pe_op op_cat pe_w pe_w) (EvS.op2 ha hb fun F H v w ef ⟨a, xs, h1, h2, h3⟩ ⟨c, ys, k1, k2, k3⟩ Q q => ⟨a, c, xs, ys, h1, k1, ef a _ h2, ef c _ k2, sz_of (by rw [h3.len, k3.len]; exact hz), fun p hp => q _ F _ [p] (Gw.own ef hp) ⟨p, _, rfl, rfl, upd_same, h3.app k3⟩ fun c' hc' => by rw [List.mem_singleton.mp hc']; exact ⟨hp, ex_none ef hp⟩⟩)
theorem EV.rep (ha : EV X b Γ e1 (im (rL R) as)) (hb : EV X b Γ e2 (im rI i1)) (hz : as.length * i1.toNat ≤ 100000) (hi : -(2 ^ 63) ≤ i1 ∧ i1 < 2 ^ 63) : EV X b Γ (.BinOp e1 .Mult e2 pos) (ow R (List.replicate i1.toNat as).flatten) :=
  EV.of (pe_op op_rep pe_w pe_w) (EvS.op2 ha hb fun F H v w ef ⟨a, xs, h1, h2, h3⟩ hw Q q => ⟨a, i1, xs, h1, hw, ef a _ h2, hi.1, hi.2, sz_of (by rw [h3.len]; exact hz), fun p hp => q _ F _ [p] (Gw.own ef hp) ⟨p, _, rfl, rfl, upd_same, h3.rep _⟩ fun c' hc' => by rw [List.mem_singleton.mp hc']; exact ⟨hp, ex_none ef hp⟩⟩)
theorem cutV_from (xs : List V) (m : Nat) : cutV xs (some (m : Int)) none = xs.drop m := by
  unfold cutV
  rw [HT.sIx_nat, HT.sIx_none]
  by_cases h : m ≤ xs.length
  · rw [Nat.min_eq_left h, List.take_of_length_le (by rw [List.length_drop]; omega)]
  · rw [Nat.min_eq_right (by omega), List.drop_of_length_le (Nat.le_refl _), List.drop_of_length_le (by omega)]; simp
theorem EV.from {m : Nat} {p2 : Pos} (ha : EV X b Γ e1 (im (rL R) as)) (hb : EV X b Γ e2 (im rI (m : Int))) : EV X b Γ (.Subscript e1 (.Slice (some e2) none none p2) pos) (ow R (as.drop m)) :=
  EV.of (pe_slice sl_list pe_w (po_some pe_w) po_none) fun σ F H l g d Q q => ha σ F H l g d _ fun v F1 H1 l1 w1 ⟨_, a, xs, h1, h2, h3⟩ _ => hb σ F1 H1 l (g.grow w1) (d.grow g.t w1) _ fun u F2 H2 l2 w2 p2 _ => ⟨(m : Int), p2.2, a, xs, h1, SqL.of (w2.e a _ (w2.f a _ h2)), fun p hp => q _ F2 _ [p] ((w1.trans w2).trans (Gw.own w2.e hp))
    ⟨p, _, rfl, rfl, upd_same, by rw [cutV_from]; exact (h3.imp fun _ _ => R.m w2.f).drop m⟩ fun c' hc' => by rw [List.mem_singleton.mp hc']; exact ⟨ex_none (w1.trans w2).h hp, ex_none w2.e hp⟩⟩
/-! a list of one's own, read by its name -/
theorem EV.lenOw {np : Pos} (i : Nat) (hΓ : Γ[i]? = some (some (ow R as))) (hm : X.mg "len" = none) (hN : X.N[i]? = some n := by rfl) (hv : Vis X.env.scope n := by first | exact Or.inl rfl | exact Or.inr (Or.inl rfl) | exact Or.inr (Or.inr rfl)) (hg : Gl X "len" := by rfl) (hd : (n == ("__debug__" : Str)) = false := by decide) (hcd : (n == ("__classdict__" : Str)) = false := by decide) :
    EV X b Γ (.Call (.Name "len" p) [.Name n np] [] pos) (im rI (as.length : Int)) := EV.of (pe_callB call_len_seq hg hm (by decide +kernel) (pa_cons (pe_var hN hv hd hcd) pa_nil)) (EvS.mki fun σ F H l g d Q q => by
  obtain ⟨v, l1, h1, ⟨a, xs, rfl, rfl, h4, h5⟩, _⟩ := g.get hΓ
  exact ⟨_, h1, a, xs, rfl, .inl (SqL.of h4), q _ F H (Gw.refl d.e) (by show V.int (xs.length : Int) = V.int _; rw [h5.len])⟩)
theorem EV.ixOw {a : α} {k : Int} {np : Pos} (i : Nat) (hΓ : Γ[i]? = some (some (ow R as))) (hk : EV X b Γ e2 (im rI k)) (ha : atI as k = some a) (hN : X.N[i]? = some n := by rfl) (hv : Vis X.env.scope n := by first | exact Or.inl rfl | exact Or.inr (Or.inl rfl) | exact Or.inr (Or.inr rfl)) (hd : (n == ("__debug__" : Str)) = false := by decide) (hcd : (n == ("__classdict__" : Str)) = false := by decide)
    (hs : PlainIx e2 := by exact (fun _ _ => rfl)) : EV X b Γ (.Subscript (.Name n np) e2 pos) (im R a) := EV.of (pe_ix ix_list (pe_var hN hv hd hcd) pe_w hs) (EvS.mki fun σ F H l g d Q q => by
  obtain ⟨v, l1, h1, ⟨c, xs, rfl, rfl, h4, h5⟩, _⟩ := g.get hΓ
  refine ⟨_, h1, hk σ F H l g d _ fun u F1 H1 l2 w p _ => ?_⟩
  obtain ⟨u2, k1, k2⟩ := atI_all h5 ha
  exact ⟨c, xs, k, u2, rfl, p.2, SqL.of (w.h c _ h4), k1, q u2 F1 H1 w (R.m w.f k2)⟩)
theorem inV_ints (k : Int) : ∀ is : List Int, inV (.int k) (is.map V.int) = decide (k ∈ is)
  | [] => rfl
  | a :: is => by
    show (eqV (.int a) (.int k) || inV (.int k) (is.map V.int)) = _
    rw [inV_ints k is, show eqV (.int a) (.int k) = (a == k) from rfl]
    by_cases h : a = k
    · subst h; simp
    · have h' : ¬ k = a := fun e => h e.symm
      simp [h, h']
theorem flat_ints : ∀ is : List Int, (is.map V.int).all flatV = true
  | [] => rfl
  | _ :: is => flat_ints is
theorem EV.inI {k : Int} (hk : EV X b Γ e1 (im rI k)) (hl : EV X b Γ e2 (im (rL rI) is)) (hm : behindInMarks .In e2 = false := by rfl) : EV X b Γ (.Compare e1 [.In] [e2] pos) (im rB (decide (k ∈ is))) := EV.of (pe_cmpR op_in_seq pe_w pe_w hm) (EvS.op2i hk hl fun F H v w ef h1 ⟨a, xs, k1, k2, k3⟩ Q q =>
  ⟨a, xs, k1, .inl (SqL.of (ef a _ k2)), by rw [show v = V.int k from h1]; rfl, by rw [all2_ints k3]; exact flat_ints _, q _ (by rw [show v = V.int k from h1, all2_ints k3, inV_ints]; rfl)⟩)
theorem TV.inI {k : Int} (hk : EV X b Γ e1 (im rI k)) (hl : EV X b Γ e2 (im (rL rI) is)) (hm : behindInMarks .In e2 = false := by rfl) : TV X b Γ (.Compare e1 [.In] [e2] pos) (decide (k ∈ is)) := TV.of (pt_cmpR op_in_seq pe_w pe_w hm) (TvS.test (EvS.op2i hk hl fun F H v w ef h1 ⟨a, xs, k1, k2, k3⟩ Q q =>
  ⟨a, xs, k1, .inl (SqL.of (ef a _ k2)), by rw [show v = V.int k from h1]; rfl, by rw [all2_ints k3]; exact flat_ints _, q _ (by rw [show v = V.int k from h1, all2_ints k3, inV_ints]; rfl)⟩))
theorem EV.ninI {k : Int} (hk : EV X b Γ e1 (im rI k)) (hl : EV X b Γ e2 (im (rL rI) is)) (hm : behindInMarks .NotIn e2 = false := by rfl) : EV X b Γ (.Compare e1 [.NotIn] [e2] pos) (im rB (!decide (k ∈ is))) := EV.of (pe_cmpR op_notIn_seq pe_w pe_w hm) (EvS.op2i hk hl fun F H v w ef h1 ⟨a, xs, k1, k2, k3⟩ Q q =>
  ⟨a, xs, k1, .inl (SqL.of (ef a _ k2)), by rw [show v = V.int k from h1]; rfl, by rw [all2_ints k3]; exact flat_ints _, q _ (by rw [show v = V.int k from h1, all2_ints k3, inV_ints]; rfl)⟩)
theorem TV.ninI {k : Int} (hk : EV X b Γ e1 (im rI k)) (hl : EV X b Γ e2 (im (rL rI) is)) (hm : behindInMarks .NotIn e2 = false := by rfl) : TV X b Γ (.Compare e1 [.NotIn] [e2] pos) (!decide (k ∈ is)) := TV.of (pt_cmpR op_notIn_seq pe_w pe_w hm) (TvS.test (EvS.op2i hk hl fun F H v w ef h1 ⟨a, xs, k1, k2, k3⟩ Q q =>
  ⟨a, xs, k1, .inl (SqL.of (ef a _ k2)), by rw [show v = V.int k from h1]; rfl, by rw [all2_ints k3]; exact flat_ints _, q _ (by rw [show v = V.int k from h1, all2_ints k3, inV_ints]; rfl)⟩))
theorem EV.ninOw {k : Int} {np : Pos} (i : Nat) (hk : EV X b Γ e1 (im rI k)) (hΓ : Γ[i]? = some (some (ow rI is))) (hN : X.N[i]? = some n := by rfl) (hv : Vis X.env.scope n := by first | exact Or.inl rfl | exact Or.inr (Or.inl rfl) | exact Or.inr (Or.inr rfl)) (hd : (n == ("__debug__" : Str)) = false := by decide) (hcd : (n == ("__classdict__" : Str)) = false := by decide) :
    EV X b Γ (.Compare e1 [.NotIn] [.Name n np] pos) (im rB (!decide (k ∈ is))) := EV.of (pe_cmpR op_notIn_seq pe_w (pe_var hN hv hd hcd) rfl) (EvS.mki fun σ F H l g d Q q => hk σ F H l g d _ fun v F1 H1 l1 w p1 _ => by
  obtain ⟨u, l2, h1, ⟨a, xs, rfl, rfl, h4, h5⟩, _⟩ := g.get hΓ
  refine ⟨_, h1, a, xs, rfl, .inl (SqL.of (w.h a _ h4)), by rw [show v = V.int k from p1.2]; rfl, by rw [all2_ints h5]; exact flat_ints _, q _ F1 H1 w (by rw [show v = V.int k from p1.2, all2_ints h5, inV_ints]; rfl)⟩)
theorem TV.ninOw {k : Int} {np : Pos} (i : Nat) (hk : EV X b Γ e1 (im rI k)) (hΓ : Γ[i]? = some (some (ow rI is))) (hN : X.N[i]? = some n := by rfl) (hv : Vis X.env.scope n := by first | exact Or.inl rfl | exact Or.inr (Or.inl rfl) | exact Or.inr (Or.inr rfl)) (hd : (n == ("__debug__" : Str)) = false := by decide) (hcd : (n == ("__classdict__" : Str)) = false := by decide) :
    TV X b Γ (.Compare e1 [.NotIn] [.Name n np] pos) (!decide (k ∈ is)) := TV.of (pt_cmpR op_notIn_seq pe_w (pe_var hN hv hd hcd) rfl) (TvS.test (EvS.mki fun σ F H l g d Q q => hk σ F H l g d _ fun v F1 H1 l1 w p1 _ => by
  obtain ⟨u, l2, h1, ⟨a, xs, rfl, rfl, h4, h5⟩, _⟩ := g.get hΓ
  refine ⟨_, h1, a, xs, rfl, .inl (SqL.of (w.h a _ h4)), by rw [show v = V.int k from p1.2]; rfl, by rw [all2_ints h5]; exact flat_ints _, q _ F1 H1 w (by rw [show v = V.int k from p1.2, all2_ints h5, inV_ints]; rfl)⟩))
/-- e is not True -/
theorem EV.notTrue {c : Bool} {j : Nat} {p2 : Pos} (h : EV X b Γ e1 (im rB c)) : EV X b Γ (.Compare e1 [.IsNot] [.Constant (.bool true) j p2] pos) (im rB (!c)) := EV.of (pe_cmpR op_notBl pe_w pe_w (nomark _)) (EvS.op2i h (EV.bl (c := true)) fun F H v w _ h1 h2 Q q => ⟨c, true, h1, h2, q _ (by show V.bl _ = V.bl _; cases c <;> rfl)⟩)
theorem TV.notTrue {c : Bool} {j : Nat} {p2 : Pos} (h : EV X b Γ e1 (im rB c)) : TV X b Γ (.Compare e1 [.IsNot] [.Constant (.bool true) j p2] pos) (!c) := TV.of (pt_cmpR op_notBl pe_w pe_w (nomark _)) (TvS.test (EvS.op2i h (EV.bl (c := true)) fun F H v w _ h1 h2 Q q => ⟨c, true, h1, h2, q _ (by show V.bl _ = V.bl _; cases c <;> rfl)⟩))
theorem EV.isNon {a : Option α} {j : Nat} {p2 : Pos} (h : EV X b Γ e1 (im (rO R) a)) (hR : ∀ F v x, R.r F v x → v ≠ .non) : EV X b Γ (.Compare e1 [.Is] [.Constant .none j p2] pos) (im rB a.isNone) := EV.of (pe_cmpR op_isN pe_w pe_w (nomark _)) (EvS.op2i h EV.non fun F H v w _ h1 h2 Q q => ⟨h2, q _ (by
  cases a with
  | none => have h1 : v = .non := h1; subst h1; rfl
  | some a => have := hR F v a h1; show V.bl _ = V.bl _; simp [this])⟩)
theorem TV.isNon {a : Option α} {j : Nat} {p2 : Pos} (h : EV X b Γ e1 (im (rO R) a)) (hR : ∀ F v x, R.r F v x → v ≠ .non) : TV X b Γ (.Compare e1 [.Is] [.Constant .none j p2] pos) a.isNone := TV.of (pt_cmpR op_isN pe_w pe_w (nomark _)) (TvS.test (EvS.op2i h EV.non fun F H v w _ h1 h2 Q q => ⟨h2, q _ (by
  cases a with
  | none => have h1 : v = .non := h1; subst h1; rfl
  | some a => have := hR F v a h1; show V.bl _ = V.bl _; simp [this])⟩))
theorem EV.notNon {a : Option α} {j : Nat} {p2 : Pos} (h : EV X b Γ e1 (im (rO R) a)) (hR : ∀ F v x, R.r F v x → v ≠ .non) : EV X b Γ (.Compare e1 [.IsNot] [.Constant .none j p2] pos) (im rB a.isSome) := EV.of (pe_cmpR op_notN pe_w pe_w (nomark _)) (EvS.op2i h EV.non fun F H v w _ h1 h2 Q q => ⟨h2, q _ (by
  cases a with
  | none => have h1 : v = .non := h1; subst h1; rfl
  | some a => have := hR F v a h1; show V.bl _ = V.bl _; simp [this])⟩)
theorem TV.notNon {a : Option α} {j : Nat} {p2 : Pos} (h : EV X b Γ e1 (im (rO R) a)) (hR : ∀ F v x, R.r F v x → v ≠ .non) : TV X b Γ (.Compare e1 [.IsNot] [.Constant .none j p2] pos) a.isSome := TV.of (pt_cmpR op_notN pe_w pe_w (nomark _)) (TvS.test (EvS.op2i h EV.non fun F H v w _ h1 h2 Q q => ⟨h2, q _ (by
  cases a with
  | none => have h1 : v = .non := h1; subst h1; rfl
  | some a => have := hR F v a h1; show V.bl _ = V.bl _; simp [this])⟩))
end
end Lg

namespace Lg
open PySem L2 Evl PyProof.Rows
/-! ### data compared -/
structure Dt {α : Type} (K : PySem.W.Frag) (R : Rl α) (D : α → PyData) (n : Nat) : Prop where
  rep : ∀ {H v x}, R.r H v x → Dp K H v (D x)
  lay : ∀ x, (D x).canLay0 = true
  dep : ∀ x, (D x).depth ≤ n
  eqv : ∀ x y, PyData.eqv (D x) (D y) = true ↔ x = y
section
variable {K : PySem.W.Frag} {α β : Type} {R : Rl α} {S : Rl β} {D : α → PyData} {D' : β → PyData} {n m : Nat}
theorem Dt.int : Dt K rI PyData.int 0 := ⟨fun h => by rw [show _ = V.int _ from h]; exact .int _, fun _ => rfl, fun _ => Nat.le_of_eq rfl, fun x y => by simp [PyData.eqv]⟩
theorem Dt.bool : Dt K rB PyData.bool 0 := ⟨fun h => by rw [show _ = V.bl _ from h]; exact .bl _, fun _ => rfl, fun _ => Nat.le_of_eq rfl, fun x y => by simp [PyData.eqv]⟩
theorem Dt.dpAll (d : Dt K R D n) : ∀ {H : Hp} {vs : List V} {as : List α}, All2 (R.r H) vs as → DpAll K H vs (as.map D)
  | _, _, _, .nil => .nil
  | _, _, _, .cons h t => .cons (d.rep h) (d.dpAll t)
theorem Dt.layAll (d : Dt K R D n) : ∀ as : List α, PyData.canLayAll0 (as.map D) = true
  | [] => rfl
  | a :: as => by
    show ((D a).canLay0 && PyData.canLayAll0 (as.map D)) = true
    rw [d.lay a, d.layAll as]; rfl
theorem Dt.depAll (d : Dt K R D n) : ∀ as : List α, PyData.depthAll (as.map D) ≤ n
  | [] => Nat.zero_le _
  | a :: as => by
    show max (D a).depth (PyData.depthAll (as.map D)) ≤ n
    exact Nat.max_le.mpr ⟨d.dep a, d.depAll as⟩
theorem Dt.eqvAll (d : Dt K R D n) : ∀ as bs : List α, PyData.eqvAll (as.map D) (bs.map D) = true ↔ as = bs
  | [], [] => ⟨fun _ => rfl, fun _ => rfl⟩
  | [], _ :: _ => ⟨fun h => absurd (show false = true from h) (by decide), fun h => nomatch h⟩
  | _ :: _, [] => ⟨fun h => absurd (show false = true from h) (by decide), fun h => nomatch h⟩
  | a :: as, b :: bs => by
    show (PyData.eqv (D a) (D b) && PyData.eqvAll (as.map D) (bs.map D)) = true ↔ _
    rw [Bool.and_eq_true, d.eqv, d.eqvAll as bs]
    exact ⟨fun ⟨h1, h2⟩ => by rw [h1, h2], fun h => by cases h; exact ⟨rfl, rfl⟩⟩
theorem Dt.lst (d : Dt K R D n) : Dt K (rL R) (fun as => .list (as.map D)) (n + 1) := ⟨fun ⟨p, xs, h1, h2, h3⟩ => by
    subst h1; exact .lst (SqL.of h2) (d.dpAll h3), fun as => d.layAll as, fun as => by
    have := d.depAll as
    show PyData.depthAll (as.map D) + 1 ≤ n + 1
    omega, fun as bs => by
    rw [← d.eqvAll as bs]
    exact Iff.rfl⟩
theorem Dt.tup (d : Dt K R D n) : Dt K (rT R) (fun as => .tuple (as.map D)) (n + 1) := ⟨fun ⟨p, xs, h1, h2, h3⟩ => by
    subst h1; exact .tup (SqT.of h2) (d.dpAll h3), fun as => d.layAll as, fun as => by
    have := d.depAll as
    show PyData.depthAll (as.map D) + 1 ≤ n + 1
    omega, fun as bs => by
    rw [← d.eqvAll as bs]
    exact Iff.rfl⟩
end
section
variable {X : Cx} {b : Bs} {Γ : Ctx} {α β γ : Type} {R : Rl α} {S : Rl β} {x y : α} {D : α → PyData} {n : Nat} {e1 e2 : Expr} {pos : Pos}
theorem Dt.shaped (d : Dt X.K R D n) (hn : n ≤ 64) (x : α) : SeqAt.shaped (D x) = true := by
  unfold SeqAt.shaped
  rw [d.lay x, decide_eq_true (Nat.le_trans (d.dep x) hn)]; rfl
theorem EV.eqD [DecidableEq α] (d : Dt X.K R D n) (hn : n ≤ 64) (hu : X.A.units + 64 < cLine) (ha : EV X b Γ e1 (im R x)) (hb : EV X b Γ e2 (im R y)) : EV X b Γ (.Compare e1 [.Eq] [e2] pos) (im rB (decide (x = y))) := EV.of (pe_cmpR (op_eqD hu) pe_w pe_w (nomark _)) (EvS.op2i ha hb fun F H v w ef h1 h2 Q q =>
  ⟨_, _, d.rep (R.m ef h1), d.rep (R.m ef h2), d.shaped hn x, d.shaped hn y, q _ (by
    show V.bl _ = V.bl _
    congr 1
    rw [Bool.eq_iff_iff, d.eqv]; simp)⟩)
theorem TV.eqD [DecidableEq α] (d : Dt X.K R D n) (hn : n ≤ 64) (hu : X.A.units + 64 < cLine) (ha : EV X b Γ e1 (im R x)) (hb : EV X b Γ e2 (im R y)) : TV X b Γ (.Compare e1 [.Eq] [e2] pos) (decide (x = y)) := TV.of (pt_cmpR (op_eqD hu) pe_w pe_w (nomark _)) (TvS.test (EvS.op2i ha hb fun F H v w ef h1 h2 Q q =>
  ⟨_, _, d.rep (R.m ef h1), d.rep (R.m ef h2), d.shaped hn x, d.shaped hn y, q _ (by
    show V.bl _ = V.bl _
    congr 1
    rw [Bool.eq_iff_iff, d.eqv]; simp)⟩))
theorem EV.neD [DecidableEq α] (d : Dt X.K R D n) (hn : n ≤ 64) (hu : X.A.units + 64 < cLine) (ha : EV X b Γ e1 (im R x)) (hb : EV X b Γ e2 (im R y)) : EV X b Γ (.Compare e1 [.NotEq] [e2] pos) (im rB (!decide (x = y))) := EV.of (pe_cmpR (op_neD hu) pe_w pe_w (nomark _)) (EvS.op2i ha hb fun F H v w ef h1 h2 Q q =>
  ⟨_, _, d.rep (R.m ef h1), d.rep (R.m ef h2), d.shaped hn x, d.shaped hn y, q _ (by
    show V.bl _ = V.bl _
    congr 2
    rw [Bool.eq_iff_iff, d.eqv]; simp)⟩)
theorem TV.neD [DecidableEq α] (d : Dt X.K R D n) (hn : n ≤ 64) (hu : X.A.units + 64 < cLine) (ha : EV X b Γ e1 (im R x)) (hb : EV X b Γ e2 (im R y)) : TV X b Γ (.Compare e1 [.NotEq] [e2] pos) (!decide (x = y)) := TV.of (pt_cmpR (op_neD hu) pe_w pe_w (nomark _)) (TvS.test (EvS.op2i ha hb fun F H v w ef h1 h2 Q q =>
  ⟨_, _, d.rep (R.m ef h1), d.rep (R.m ef h2), d.shaped hn x, d.shaped hn y, q _ (by
    show V.bl _ = V.bl _
    congr 2
    rw [Bool.eq_iff_iff, d.eqv]; simp)⟩))
end
/-! ### dicts -/
def kget {β : Type} (kvs : List (Key × β)) (k : Key) : Option β := (kvs.find? fun kv => decide (kv.1 = k)).map (·.2)
def kput {β : Type} (kvs : List (Key × β)) (k : Key) (v : β) : List (Key × β) := if kvs.any (fun kv => decide (kv.1 = k)) then kvs.map (fun kv => if kv.1 = k then (kv.1, v) else kv) else kvs ++ [(k, v)]
inductive KvR {β : Type} (p : V → β → Prop) : List (Key × V) → List (Key × β) → Prop
  | nil : KvR p [] []
  | cons {k : Key} {v : V} {y : β} {ws : List (Key × V)} {kvs : List (Key × β)} : p v y → KvR p ws kvs → KvR p ((k, v) :: ws) ((k, y) :: kvs)
section
variable {β : Type} {p q : V → β → Prop}
theorem KvR.imp (h : ∀ v y, p v y → q v y) : ∀ {ws kvs}, KvR p ws kvs → KvR q ws kvs
  | _, _, .nil => .nil
  | _, _, .cons x t => .cons (h _ _ x) (t.imp h)
theorem KvR.len : ∀ {ws kvs}, KvR p ws kvs → ws.length = kvs.length
  | _, _, .nil => rfl
  | _, _, .cons _ t => by simp [t.len]
theorem KvR.any (k : Key) : ∀ {ws kvs}, KvR p ws kvs → (ws.any fun kv => decide (kv.1 = k)) = kvs.any fun kv => decide (kv.1 = k)
  | _, _, .nil => rfl
  | _, _, .cons x t => by rw [List.any_cons, List.any_cons, t.any k]
theorem KvR.app : ∀ {ws kvs ws' kvs'}, KvR p ws kvs → KvR p ws' kvs' → KvR p (ws ++ ws') (kvs ++ kvs')
  | _, _, _, _, .nil, t => t
  | _, _, _, _, .cons x s, t => .cons x (s.app t)
theorem KvR.repl (k : Key) {v : V} {y : β} (h : p v y) : ∀ {ws kvs}, KvR p ws kvs → KvR p (ws.map fun kv => if kv.1 = k then (kv.1, v) else kv) (kvs.map fun kv => if kv.1 = k then (kv.1, y) else kv)
  | _, _, .nil => .nil
  | _, _, .cons (k := k') x t => by
    rw [List.map_cons, List.map_cons]
    by_cases z : k' = k
    · rw [if_pos z, if_pos z]; exact .cons h (t.repl k h)
    · rw [if_neg z, if_neg z]; exact .cons x (t.repl k h)
theorem KvR.put (k : Key) {v : V} {y : β} (h : p v y) {ws kvs} (t : KvR p ws kvs) : KvR p (putK ws k v) (kput kvs k y) := by
  unfold putK kput
  rw [t.any k]
  split
  · exact t.repl k h
  · exact t.app (.cons h .nil)
theorem KvR.get (k : Key) : ∀ {ws kvs}, KvR p ws kvs → match kget kvs k with | none => valV ws k = none | some y => ∃ v, valV ws k = some v ∧ p v y
  | _, _, .nil => rfl
  | _, _, .cons (k := k') (v := v) (y := y) (ws := ws) (kvs := kvs) x t => by
    by_cases z : k' = k
    · have e : kget ((k', y) :: kvs) k = some y := by simp [kget, List.find?_cons, z]
      rw [e]
      exact ⟨v, valV_pos z, x⟩
    · have e : kget ((k', y) :: kvs) k = kget kvs k := by simp [kget, List.find?_cons, z]
      rw [e, show valV ((k', v) :: ws) k = valV ws k from valV_neg z]
      exact t.get k
end
def rD {β : Type} (S : Rl β) : Rl (List (Key × β)) :=
  ⟨fun H v kvs => ∃ a ws, v = .ref a ∧ H a = some (.dK ws) ∧ KvR (S.r H) ws kvs, fun {H H' v kvs} e ⟨a, ws, h1, h2, h3⟩ => ⟨a, ws, h1, e a _ h2, h3.imp fun _ _ => S.m e⟩⟩
/-- a dict of one's own -/
def owD {β : Type} (S : Rl β) (kvs : List (Key × β)) : Sl where
  P := fun F H v l => ∃ p ws, v = .ref p ∧ l = [p] ∧ H p = some (.dK ws) ∧ KvR (S.r F) ws kvs
  m := fun e k ⟨p, xs, h1, h2, h3, h4⟩ => ⟨p, xs, h1, h2, by rw [k p (by rw [h2]; exact List.mem_singleton.mpr rfl)]; exact h3, h4.imp fun _ _ => S.m e⟩
  t := fun ⟨p, xs, h1, h2, h3, h4⟩ a ha => by
    rw [h2] at ha
    rw [List.mem_singleton.mp ha, h3]
    exact fun z => nomatch z
  d := fun ⟨p, xs, h1, h2, h3, h4⟩ => by rw [h2]; simp
section
variable {X : Cx} {b : Bs} {Γ : Ctx} {α β γ : Type} {R : Rl α} {S : Rl β} {x : α} {y : β} {e e1 e2 kx vx iter : Expr} {pos np : Pos} {kvs : List (Key × β)} {k : Key} {as : List α} {scope : Scope} {n : Str} {j : Nat}
theorem EV.fzD (h : EV X b Γ e (owD S kvs)) : EV X b Γ e (im (rD S) kvs) := EvS.mki fun σ F H l g d Q q => h σ F H l g d Q fun v F' H' l' w ⟨p, xs, h1, h2, h3, h4⟩ f => by
  subst h1 h2
  obtain ⟨f1, f2⟩ := f p (List.mem_singleton.mpr rfl)
  refine q _ (upd F' p (.dK xs)) H' ⟨w.f.trans (Ex.new f2), w.h, fun a u ha => ?_, fun a h1 h2 => ?_⟩ ⟨p, xs, rfl, upd_same, h4.imp fun _ _ => S.m (Ex.new f2)⟩
  · by_cases z : a = p
    · subst z; rw [upd_same] at ha; rw [h3]; exact ha
    · rw [upd_ne z] at ha; exact w.e a u ha
  · rw [upd_ne (fun z => h2 (by rw [z]; exact f1))]; exact w.k a h1 h2
/-- k in d, k not in d, d[k] -/
theorem EV.inD (hu : X.A.units + 1 < cLine) (hk : EV X b Γ e1 (im R x)) (hx : ∀ F v, R.r F v x → v = kV k) (hd : EV X b Γ e2 (im (rD S) kvs)) (hm : behindInMarks .In e2 = false := by rfl) : EV X b Γ (.Compare e1 [.In] [e2] pos) (im rB (kget kvs k).isSome) := EV.of (pe_cmp (pc_din hu pe_w pe_w) hm) (EvS.mki fun σ F H l g d Q q =>
  hk σ F H l g d _ fun v F1 H1 l1 w1 p1 _ => hd σ F1 H1 l (g.grow w1) (d.grow g.t w1) _ fun u F2 H2 l2 w2 ⟨_, a, ws, h1, h2, h3⟩ _ => by
    refine ⟨a, valV ws k, h1, ?_, ?_⟩
    · rw [hx F1 v p1.2]; exact DGet.k (w2.e a _ h2)
    · refine q _ F2 H2 (w1.trans w2) ?_
      have t := h3.get k
      show V.bl _ = V.bl _
      cases z : kget kvs k with
      | none => rw [z] at t; rw [t]; rfl
      | some y => rw [z] at t; obtain ⟨u, t, _⟩ := t; rw [t]; rfl)
theorem TV.inD (hu : X.A.units + 1 < cLine) (hk : EV X b Γ e1 (im R x)) (hx : ∀ F v, R.r F v x → v = kV k) (hd : EV X b Γ e2 (im (rD S) kvs)) (hm : behindInMarks .In e2 = false := by rfl) : TV X b Γ (.Compare e1 [.In] [e2] pos) (kget kvs k).isSome := TV.of (pt_cmp (pc_din hu pe_w pe_w) hm) (TvS.testB (EvS.mki fun σ F H l g d Q q =>
  hk σ F H l g d _ fun v F1 H1 l1 w1 p1 _ => hd σ F1 H1 l (g.grow w1) (d.grow g.t w1) _ fun u F2 H2 l2 w2 ⟨_, a, ws, h1, h2, h3⟩ _ => by
    refine ⟨a, valV ws k, h1, ?_, ?_⟩
    · rw [hx F1 v p1.2]; exact DGet.k (w2.e a _ h2)
    · refine q _ F2 H2 (w1.trans w2) ?_
      have t := h3.get k
      show V.bl _ = V.bl _
      cases z : kget kvs k with
      | none => rw [z] at t; rw [t]; rfl
      | some y => rw [z] at t; obtain ⟨u, t, _⟩ := t; rw [t]; rfl))
theorem EV.ninD (hu : X.A.units + 1 < cLine) (hk : EV X b Γ e1 (im R x)) (hx : ∀ F v, R.r F v x → v = kV k) (hd : EV X b Γ e2 (im (rD S) kvs)) (hm : behindInMarks .NotIn e2 = false := by rfl) : EV X b Γ (.Compare e1 [.NotIn] [e2] pos) (im rB (!(kget kvs k).isSome)) := EV.of (pe_cmp (pc_dnotin hu pe_w pe_w) hm) (EvS.mki fun σ F H l g d Q q =>
  hk σ F H l g d _ fun v F1 H1 l1 w1 p1 _ => hd σ F1 H1 l (g.grow w1) (d.grow g.t w1) _ fun u F2 H2 l2 w2 ⟨_, a, ws, h1, h2, h3⟩ _ => by
    refine ⟨a, valV ws k, h1, ?_, ?_⟩
    · rw [hx F1 v p1.2]; exact DGet.k (w2.e a _ h2)
    · refine q _ F2 H2 (w1.trans w2) ?_
      have t := h3.get k
      show V.bl _ = V.bl _
      cases z : kget kvs k with
      | none => rw [z] at t; rw [t]; rfl
      | some y => rw [z] at t; obtain ⟨u, t, _⟩ := t; rw [t]; rfl)
theorem TV.ninD (hu : X.A.units + 1 < cLine) (hk : EV X b Γ e1 (im R x)) (hx : ∀ F v, R.r F v x → v = kV k) (hd : EV X b Γ e2 (im (rD S) kvs)) (hm : behindInMarks .NotIn e2 = false := by rfl) : TV X b Γ (.Compare e1 [.NotIn] [e2] pos) (!(kget kvs k).isSome) := TV.of (pt_cmp (pc_dnotin hu pe_w pe_w) hm) (TvS.testB (EvS.mki fun σ F H l g d Q q =>
  hk σ F H l g d _ fun v F1 H1 l1 w1 p1 _ => hd σ F1 H1 l (g.grow w1) (d.grow g.t w1) _ fun u F2 H2 l2 w2 ⟨_, a, ws, h1, h2, h3⟩ _ => by
    refine ⟨a, valV ws k, h1, ?_, ?_⟩
    · rw [hx F1 v p1.2]; exact DGet.k (w2.e a _ h2)
    · refine q _ F2 H2 (w1.trans w2) ?_
      have t := h3.get k
      show V.bl _ = V.bl _
      cases z : kget kvs k with
      | none => rw [z] at t; rw [t]; rfl
      | some y => rw [z] at t; obtain ⟨u, t, _⟩ := t; rw [t]; rfl))
theorem EV.getD {v : β} (hu : X.A.units + 1 < cLine) (hd : EV X b Γ e1 (im (rD S) kvs)) (hk : EV X b Γ e2 (im R x)) (hx : ∀ F v, R.r F v x → v = kV k) (hv : kget kvs k = some v) (hs : NoSl e2 := by exact (fun _ _ => rfl)) : EV X b Γ (.Subscript e1 e2 pos) (im S v) := EV.of (pe_dget hu pe_w pe_w hs) (EvS.mki fun σ F H l g d Q q =>
  hd σ F H l g d _ fun u F1 H1 l1 w1 ⟨_, a, ws, h1, h2, h3⟩ _ => hk σ F1 H1 l (g.grow w1) (d.grow g.t w1) _ fun v' F2 H2 l2 w2 p2 _ => by
    have t := h3.get k
    rw [hv] at t
    obtain ⟨z, t1, t2⟩ := t
    refine ⟨a, z, h1, ?_, q z F2 H2 (w1.trans w2) (S.m w2.f t2)⟩
    rw [hx F2 v' p2.2, ← t1]
    exact DGet.k (w2.h a _ (w1.e a _ h2)))
/-- name = {..}: a dict comprehension that ends in the store of a local name -/
theorem ps_setDc {X : Cx} {i : Nat} {y : Str} {py : Pos} {kx vx tg iter : Expr} {ifs : List Expr} {scope : Scope} {own : List (Str × Nat)} {pos spos : Pos} {wi : TI} {g : TG} {tt : TT} {tk tv : TE} (hcalm : X.calm = true) (hnd : X.N.Nodup) (hy : X.N[i]? = some y) (hloc : X.env.scope.names.lookup y = some .local)
    (hswap : swapsWith (.DictComp kx vx [⟨tg, iter, ifs, 0⟩] scope pos) (some (.Name y py)) spos.line X.env = pure true) (hiter : PI X tg iter wi) (hblk : BlkOk X.N X.env.scope scope own)
    (htg : ∀ (s : Shared) (H : Hp) (C : Addr) (cl : List (Str × Addr)) (fp : List Addr), PG (X.blk s H scope (compEnvC scope cl C X.env) fp) tg g) (htt : ∀ (s : Shared) (H : Hp) (C : Addr) (cl : List (Str × Addr)) (fp : List Addr), PTs (X.blk s H scope (compEnvC scope cl C X.env) fp) ifs tt)
    (hkey : ∀ (s : Shared) (H : Hp) (C : Addr) (cl : List (Str × Addr)) (fp : List Addr), PE (X.blk s H scope (compEnvC scope cl C X.env) fp) kx tk) (hval : ∀ (s : Shared) (H : Hp) (C : Addr) (cl : List (Str × Addr)) (fp : List Addr), PE (X.blk s H scope (compEnvC scope cl C X.env) fp) vx tv)
    (hfold : ∀ x, foldedSetIterable iter X.env x = pure x) : PS X (.Assign [.Name y py] (.DictComp kx vx [⟨tg, iter, ifs, 0⟩] scope pos) spos) (tAsg (tDc wi g tt tk tv (own.map (·.2))) (gName i)) := by
  refine ⟨fun pins s σ H D J hq => ?_⟩
  rw [exec_Assign_Name_used _ _ _ _ hswap]
  refine wpAny_bind (wpAny_standAt (wpAny_bind ?_))
  show wpAny _ X.A (do let _ ← comprehension (.DictComp kx vx [⟨tg, iter, ifs, 0⟩] scope pos) scope X.env (firstIterPos [⟨tg, iter, ifs, 0⟩] pos) newDict false (eval iter X.env) (some (assign (.Name y py) X.env))) _ _ s
  have hq : tDc wi g tt tk tv (own.map (·.2)) σ H (fun x H1 => gName i x σ H1 D.nx) := hq
  refine wpAny_bind (thn (dc_core (Qf := fun _ s' => SP X pins D .next s') hcalm hnd J hiter hblk htg htt hkey hval hfold hq fun L C s' m H' J' done hn f => ?_) fun _ s' z => wpAny_pure (wpAny_pure z))
  show wpAny _ _ (assign (.Name y py) X.env (.ref L)) _ _ _
  refine wpAny_assign_Name (store_ok2 (v := V.ref L) J' hnd hy (.inl hloc) rfl (fun s2 J2 ⟨a, sb, ha⟩ => ?_) (.inr hloc))
  have ne : C ≠ a := by
    rcases ha with z | z
    · rw [z]; exact f.2.1
    · exact fun e => f.2.2.2.2.1 y a z e.symm
  exact ⟨m, hn.sameBut sb ne, fun h3 sb3 => ⟨_, H', J2.turned (t' := s2.toks) (fun b o hb e => (sb3.2 b hb).trans e) f.1 f.2.1 f.2.2.2.1 f.2.2.2.2.1 f.2.2.2.2.2, done⟩⟩
theorem sw_dict {kx vx : Expr} {gs : List Comprehension} {scope : Scope} {pos py : Pos} {y : Str} {l : Nat} {env : Env} (hk : env.scope.kind = .function) (hy : env.scope.names.lookup y = some .local) (hl : (py.line == pos.line) = true)
    (ha : (scope.names.any fun (n, k) => n == y && (k == .local || k == .cell)) = false) : swapsWith (.DictComp kx vx gs scope pos) (some (.Name y py)) l env = pure true := by
  have k1 : env.kindOf y = some .local := hy
  have k2 : env.blockKind = .function := by unfold Env.blockKind; rw [hk]; rfl
  unfold swapsWith
  simp only [k2, k1, ha, Expr.pos, hl]
  rfl
/-- {kx: vx for n in xs} -/
theorem LV.dcL0 (kf : α → Key) (vf : α → β) (hi : IV X b Γ (.Name n np) iter as.length (IL R as)) (nd : X.N.Nodup) (ok : blkC X.N X.env.scope scope [(n, j)] = true) (hm : as.length ≤ 50000)
    (hk : ∀ (b' : Bs) (i : Nat) (a : α) s H0 C cl fp, b'.B = b.B → as[i]? = some a → ∃ (κ : Type) (Rk : Rl κ) (z : κ), EV (X.blk s H0 scope (compEnvC scope cl C X.env) fp) b' (Sb Γ j (mk R a)) kx (im Rk z) ∧ ∀ F v, Rk.r F v z → v = kV (kf a))
    (hv : ∀ (b' : Bs) (i : Nat) (a : α) s H0 C cl fp, b'.B = b.B → as[i]? = some a → EV (X.blk s H0 scope (compEnvC scope cl C X.env) fp) b' (Sb Γ j (mk R a)) vx (im S (vf a)))
    (hg : ∀ (s : Shared) (H0 : Hp) (C : Addr) (cl : List (Str × Addr)) (fp : List Addr), PG (X.blk s H0 scope (compEnvC scope cl C X.env) fp) (.Name n np) (gName j)) (hc : X.calm = true := by rfl) (hf : ∀ x, foldedSetIterable iter X.env x = pure x := by intro _; rfl) :
    LV X b Γ (.DictComp kx vx [⟨.Name n np, iter, [], 0⟩] scope pos) (owD S (as.foldl (fun kvs a => kput kvs (kf a) (vf a)) [])) := by
  obtain ⟨wi, p1, k1⟩ := hi
  refine ⟨_, pe_dc (own := [(n, j)]) (g := gName j) (tt := tYes) (tk := wEb X scope kx) (tv := wEb X scope vx) hc nd p1 (blkOk_by ok) hg (fun _ _ _ _ _ => pts_nil) (fun _ _ _ _ _ => pe_wb) (fun _ _ _ _ _ => pe_wb) hf, fun σ F H l g d Q q => ?_,
    fun i y py spos hi hy hsw => ps_setDc (own := [(n, j)]) (g := gName j) (tt := tYes) (tk := wEb X scope kx) (tv := wEb X scope vx) hc nd hi hy hsw p1 (blkOk_by ok) hg (fun _ _ _ _ _ => pts_nil) (fun _ _ _ _ _ => pe_wb) (fun _ _ _ _ _ => pe_wb) hf⟩
  refine k1 σ F H l g d _ fun J F1 H1 w ⟨G, Y, W, hG, hY⟩ D hD => ?_
  have d1 := d.grow g.t w
  have g1 := g.grow w
  obtain ⟨l2, g2, nd2, sub2⟩ := SgL.put (o' := none) (w := none) (l' := []) trivial List.nodup_nil j g1 d1.nd (fun _ h => nomatch h)
  have sub2 : ∀ a ∈ l2, a ∈ l := fun a ha => by
    rcases sub2 a ha with z | z
    · exact z
    · cases z
  have d2 : Gd ⟨F1, b.B⟩ F1 H1 l2 := d1.self.of_l nd2 fun a ha => ⟨d1.of a (sub2 a ha), d1.ob a (sub2 a ha)⟩
  have nB : b.B D = none := ex_none d1.eb hD
  have nF : F1 D = none := ex_none d1.e hD
  have nl : D ∉ l2 := fun z => g1.t D (sub2 D z) hD
  have c0 : Cv b F1 H1 (Γ.set j none) (σ.set j none) D l2 F1 (upd H1 D (.dK [])) := Cv.upd ⟨g2, d2, Gw.refl d1.e, nl, nB, nF, hD⟩
  -- the walk
  let Pv : Nat → Hp → Prop := fun i H' => ∃ F' ws, Cv b F1 H1 (Γ.set j none) (σ.set j none) D l2 F' H' ∧ H' D = some (.dK ws) ∧ KvR (S.r F') ws ((as.take i).foldl (fun kvs a => kput kvs (kf a) (vf a)) []) ∧ i ≤ as.length ∧ ws.length ≤ i
  refine ⟨fun i m H => m = as.length - i ∧ i ≤ as.length ∧ Pv i H, ⟨as.length, by simp, Nat.zero_le _, F1, [], c0, upd_same, .nil, Nat.zero_le _, Nat.zero_le _⟩, ?_⟩
  rintro i m H' ⟨rfl, hi, F', ws, c, ha, hkv, hi', hlen⟩
  have hGG := hG F' H' c.d.ef c.d.e
  by_cases hlt : i < as.length
  · refine .inr ⟨W.goes i H' hlt hGG, Pv (i + 1), fun H'' p' => ⟨as.length - (i + 1), by omega, rfl, hlt, p'⟩, fun v H'' y => ?_⟩
    have y := W.yields i H' v H'' hlt hGG y
    obtain ⟨F'', y0, w', ⟨a, ha0, rfl⟩, r2⟩ := hY i F' H' v H'' hlt c.d.ef c.d.e y
    have hDn : H' D ≠ none := by rw [ha]; exact fun z => nomatch z
    have c2 := c.grow hDn w'
    have ha2 : H'' D = some (.dK ws) := w'.h D _ ha
    have hD2 : H'' D ≠ none := by rw [ha2]; exact fun z => nomatch z
    refine ⟨(by show ((σ.set j none).set j (some v)).set j none = σ.set j none; rw [List.set_set, List.set_set]), ?_⟩
    simp only [tYes, ↓reduceIte]
    obtain ⟨l3, g3, nd3, sub3⟩ := SgL.put (o' := some (im R a)) (w := some v) (l' := []) ⟨v, rfl, rfl, r2⟩ List.nodup_nil j c2.g c2.d.nd (fun _ h => nomatch h)
    have sub3 : ∀ a ∈ l3, a ∈ l2 := fun a ha => by
      rcases sub3 a ha with z | z
      · exact z
      · cases z
    have d3 : Gd ⟨F1, b.B⟩ F'' H'' l3 := c2.d.of_l nd3 fun a ha => ⟨c2.d.of a (sub3 a ha), c2.d.ob a (sub3 a ha)⟩
    intro s H0 C cl fp
    obtain ⟨κ, Rk, z, he, hz⟩ := hk ⟨F1, b.B⟩ i a s H0 C cl fp rfl ha0
    refine he _ F'' H'' l3 g3 d3 _ fun u F3 H3 l4 w3 p3 _ => ?_
    intro s H0 C cl fp
    refine hv ⟨F1, b.B⟩ i a s H0 C cl fp rfl ha0 _ F3 H3 l3 (g3.grow w3) (d3.grow g3.t w3) _ fun u2 F4 H4 l5 w4 p4 _ => ?_
    have c3 := c2.grow hD2 w3
    have hD3 : H3 D ≠ none := by rw [w3.h D _ ha2]; exact fun z => nomatch z
    have c4 := c3.grow hD3 w4
    have a4 := w4.h D _ (w3.h D _ ha2)
    refine ⟨ws, kf a, hz _ _ p3.2, a4, sz_lt (by omega), F4, putK ws (kf a) u2, c4.upd, upd_same, ?_, hlt, Nat.le_trans (length_putK _ _ _) (by omega)⟩
    have e : as.take (i + 1) = as.take i ++ [a] := by
      rw [List.take_add_one, ha0]; rfl
    rw [e, List.foldl_append]
    exact KvR.put (kf a) p4.2 (hkv.imp fun _ _ => S.m ((w'.f.trans w3.f).trans w4.f))
  · have e : i = as.length := by omega
    subst e
    refine .inl ⟨W.stops H' hGG, q (.ref D) F' H' [D] (w.trans c.w) ⟨D, ws, rfl, rfl, ha, by rw [List.take_length] at hkv; exact hkv⟩ fun a h => by rw [List.mem_singleton.mp h]; exact ⟨ex_none w.h hD, c.nF⟩⟩
theorem kget_put (kvs : List (Key × β)) (k k' : Key) (v : β) : (kget (kput kvs k v) k').isSome = ((kget kvs k').isSome || decide (k = k')) := by
  have hany : ∀ (kvs : List (Key × β)) (k : Key), (kget kvs k).isSome = kvs.any fun kv => decide (kv.1 = k) := by
    intro kvs k
    induction kvs with
    | nil => rfl
    | cons p r ih =>
      by_cases z : p.1 = k
      · simp [kget, List.find?_cons, z]
      · have : kget (p :: r) k = kget r k := by simp [kget, List.find?_cons, z]
        rw [this, ih, List.any_cons]; simp [z]
  rw [hany, hany]
  unfold kput
  split
  · rename_i h
    rw [List.any_map]
    have e : ((fun kv : Key × β => decide (kv.1 = k')) ∘ fun kv => if kv.1 = k then (kv.1, v) else kv) = fun kv => decide (kv.1 = k') := by
      funext kv
      show decide ((if kv.1 = k then (kv.1, v) else kv).1 = k') = _
      split <;> rfl
    rw [e]
    by_cases z : k = k'
    · subst z; simp [h]
    · simp [z]
  · rw [List.any_append]; simp
theorem keys_in (kf : α → Key) (vf : α → β) (k : Key) : ∀ (as : List α) (kvs : List (Key × β)), (kget (as.foldl (fun kvs a => kput kvs (kf a) (vf a)) kvs) k).isSome = ((kget kvs k).isSome || as.any fun a => decide (kf a = k))
  | [], kvs => by simp
  | a :: as, kvs => by rw [List.foldl_cons, keys_in kf vf k as, kget_put, Bool.or_assoc, List.any_cons]
theorem HT.frzD {C : EndC} {sts : List Stmt} (i : Nat) (hΓ : Γ[i]? = some (some (owD S kvs))) (k : HT X b C (Γ.set i (some (im (rD S) kvs))) sts) : HT X b C Γ sts := fun σ F H ⟨l, g, d⟩ => by
  obtain ⟨v, l1, h1, ⟨p, xs, rfl, rfl, h4, h5⟩, h6, h7⟩ := g.frz d.nd hΓ
  have hp := h6 p (List.mem_singleton.mpr rfl)
  have fp := d.of p hp
  obtain ⟨l2, k1, k2, k3⟩ := h7 (upd F p (.dK xs)) (im (rD S) kvs) (Ex.new fp) ⟨rfl, p, xs, rfl, upd_same, h5.imp fun _ _ => S.m (Ex.new fp)⟩
  refine k σ (upd F p (.dK xs)) H ⟨l2, k1, d.ef.trans (Ex.new fp), d.eb, fun a u ha => ?_, fun a q1 q2 => ?_, k2, fun a ha => ?_, fun a ha => d.ob a (k3 a ha).1⟩
  · by_cases z : a = p
    · subst z; rw [upd_same] at ha; rw [h4]; exact ha
    · rw [upd_ne z] at ha; exact d.e a u ha
  · rw [upd_ne fun z => q2 (by rw [z]; exact d.ob p hp)]; exact d.k a q1 q2
  · rw [upd_ne fun z => (k3 a ha).2 (List.mem_singleton.mpr z)]; exact d.of a (k3 a ha).1
end
end Lg

namespace Lg
open PySem L2 Evl PyProof.Rows
/-- some text -/
def anyStr : Sl where
  P := fun _ _ v l => l = [] ∧ ∃ z : Str, v = .str z
  m := fun _ _ h => h
  t := fun h a ha => by rw [h.1] at ha; cases ha
  d := fun h => by rw [h.1]; exact List.nodup_nil
/-- parts of an f-string: some text of a bounded length -/
def JV (X : Cx) (b : Bs) (Γ : Ctx) (es : List Expr) (n : Nat) : Prop := ∃ ts, PJ X es ts ∧ ∀ σ F H l (acc : Str), SgL F H Γ σ l → Gd b F H l → acc.length + n ≤ sizeLine → ∀ Q : Str → Hp → Prop, (∀ z F' H', Gw F H F' H' → Q z H') → tJs ts acc σ H Q
section
variable {X : Cx} {b : Bs} {Γ : Ctx} {e : Expr} {es : List Expr} {n : Nat} {pos : Pos} {i : Int} {z : Str}
theorem str_app_len (x y : Str) : (x ++ y).length = x.length + y.length := by
  show (x.cps ++ y.cps).size = x.cps.size + y.cps.size
  exact Array.size_append
theorem JV.nil : JV X b Γ [] 0 := ⟨[], .nil, fun σ F H l acc g d _ Q q => q acc F H (Gw.refl d.e)⟩
theorem JV.str {j : Nat} (k : JV X b Γ es n) : JV X b Γ (.Constant (.str z) j pos :: es) (z.length + n) := by
  obtain ⟨ts, p, k⟩ := k
  exact ⟨_, .cons pe_str p, fun σ F H l acc g d hl Q q => ⟨z, rfl, by rw [str_app_len]; omega, k σ F H l (acc ++ z) g d (by rw [str_app_len]; omega) Q q⟩⟩
theorem JV.int (h : EV X b Γ e (im rI i)) (hi : i.natAbs.log2 < 1920) (k : JV X b Γ es n) : JV X b Γ (.FormattedValue e (-1) none pos :: es) (1921 + n) := by
  obtain ⟨ts, p, k⟩ := k
  refine ⟨_, .cons (pe_fmt pe_w) p, fun σ F H l acc g d hl Q q => h σ F H l g d _ fun v F1 H1 l1 w p1 _ => .inr ⟨i, p1.2, hi, ?_⟩⟩
  have hb : (toString i : Str).length ≤ 1921 := int_text_len_1921 hi
  exact ⟨_, rfl, by rw [str_app_len]; omega, k σ F1 H1 l _ (g.grow w) (d.grow g.t w) (by rw [str_app_len]; omega) Q fun z F' H' w' => q z F' H' (w.trans w')⟩
theorem JV.txt (h : EV X b Γ e (im rS z)) (hz : z.length ≤ sizeLine) (k : JV X b Γ es n) : JV X b Γ (.FormattedValue e (-1) none pos :: es) (z.length + n) := by
  obtain ⟨ts, p, k⟩ := k
  refine ⟨_, .cons (pe_fmt pe_w) p, fun σ F H l acc g d hl Q q => h σ F H l g d _ fun v F1 H1 l1 w p1 _ => .inl ⟨z, p1.2, hz, ?_⟩⟩
  exact ⟨_, rfl, by rw [str_app_len]; omega, k σ F1 H1 l _ (g.grow w) (d.grow g.t w) (by rw [str_app_len]; omega) Q fun z F' H' w' => q z F' H' (w.trans w')⟩
theorem EV.fstr {v1 v2 : Expr} {rest : List Expr} (k : JV X b Γ (v1 :: v2 :: rest) n) (hn : n ≤ sizeLine) : EV X b Γ (.JoinedStr (v1 :: v2 :: rest) pos) anyStr := by
  obtain ⟨ts, p, k⟩ := k
  exact EV.of (pe_joined p) fun σ F H l g d Q q => k σ F H l Str.empty g d (by rw [show Str.empty.length = 0 from rfl]; omega) _ fun z F' H' w => q _ F' H' [] w ⟨rfl, z, rfl⟩ fun _ h => nomatch h
/-- any text is data enough for a raise -/
theorem EV.strAny (h : EV X b Γ e (im rS z)) : EV X b Γ e anyStr := fun σ F H l g d Q q => h σ F H l g d Q fun v F' H' l' w p f => q v F' H' l' w ⟨p.1, z, p.2⟩ f
end
end Lg

namespace Lg
open PySem L2 Evl PyProof.Rows
/-! ### results that are told by a property -/
def EVR (X : Cx) (b : Bs) (Γ : Ctx) (e : Expr) (post : Sl → Prop) : Prop := ∀ σ F H l, SgL F H Γ σ l → Gd b F H l → ∀ Q : VK, (∀ s v F' H' l', post s → Gw F H F' H' → s.P F' H' v l' → (∀ a ∈ l', H a = none ∧ F' a = none) → Q v H') → wE X e σ H Q
def spR {ι : Type} (A : ι → List Im) (pre : ι → Prop) (post : ι → Sl → Prop) : Sp := fun vs H Q _ => ∃ (i : ι) (F : Hp), Ex F H ∧ Ims F vs (A i) ∧ pre i ∧ ∀ s, post i s → ∀ v F' H' l', Gw F H F' H' → s.P F' H' v l' → (∀ a ∈ l', H a = none ∧ F' a = none) → Q v H'
section
variable {X : Cx} {b : Bs} {C : EndC} {Γ : Ctx} {k : Nat} {x n : Str} {ps : List Str} {ι α β : Type} {A : ι → List Im} {pre : ι → Prop} {post : ι → Sl → Prop} {po : Sl → Prop} {i : ι} {e : Expr} {es : List Expr} {p pos pos' : Pos} {W : WX} {rest : List Stmt}
theorem EVR.call (T : Kn X.prog X.w X.K X.mg X.base k x ps (spR A pre post)) (hr : Room k X.A) (tk : L2N.Takes X W) (ha : AV X b Γ (e :: es) (A i)) (hp : pre i) (hg : Gl X x := by rfl)
    (hdb : (x == ("__debug__" : Str)) = false := by decide) (he : starEach (e :: es) X.env = (false, eval e X.env) :: starEach es X.env := by rfl) (hpl : (backTo pos (starEach es X.env)).any (·.1) = false := by rfl) : EVR X b Γ (.Call (.Name x p) (e :: es) [] pos) (post i) := by
  obtain ⟨ta, p1, p2⟩ := ha
  obtain ⟨f, fd, Fn, hm, hk, hb⟩ := T.ex
  refine fun σ F H l g d Q q => wE.of (pe_callS Fn hr hg hm hk hb (fun σ => L2N.passAt tk σ) p1 hdb he hpl) (p2 σ F H l g d _ fun vs F1 H1 w hv => ?_)
  refine ⟨i, F1, w.e, hv, hp, fun s hs v F' H' l' w' p f => q s v F' H' l' hs (w.trans w') p fun a ha => ⟨ex_none w.h (f a ha).1, (f a ha).2⟩⟩
theorem HT.setR (j : Nat) (he : EVR X b Γ e po) (k : ∀ s, po s → HT X b C (Γ.set j (some s)) rest) (nd : X.N.Nodup) (hi : X.N[j]? = some n := by rfl) (hx : Loc X.env.scope n := by first | exact Or.inl rfl | exact Or.inr rfl) (hs : swapsWith e (some (.Name n pos')) pos.line X.env = pure false := by rfl)
    (hf : X.fn n = true ∨ X.env.scope.names.lookup n = some .local := by first | exact .inl rfl | exact .inr rfl | assumption) : HT X b C Γ (.Assign [.Name n pos'] e pos :: rest) :=
  HT.step (ps_set nd hi hx pe_w hs hf) fun σ F H ⟨l, g, d⟩ => he σ F H l g d _ fun s v F' H' l' hs w p f => k s hs _ _ _ (Sg.put j g d w p f)
/-- data told in another way -/
theorem HT.cv {R : Rl α} {S : Rl β} {x : α} {y : β} {sts : List Stmt} (j : Nat) (hΓ : Γ[j]? = some (some (im R x))) (h : ∀ F v, R.r F v x → S.r F v y) (k : HT X b C (Γ.set j (some (im S y))) sts) : HT X b C Γ sts := fun σ F H ⟨l, g, d⟩ => by
  obtain ⟨v, l1, h1, ⟨rfl, h2⟩, h3, h4⟩ := g.mod d.nd hΓ
  exact k σ F H ⟨l, h4 H (im S y) (fun _ _ => rfl) ⟨rfl, h F v h2⟩, d⟩
end
section
variable {P : Program} {w : World} {K : PySem.W.Frag} {mg : Str → Option Value} {base : Heap} {x qual : Str} {st : Stmt} {f : Addr} {fd : FuncData} {N ps : List Str} {k : Nat} {ι : Type} {A : ι → List Im} {pre : ι → Prop} {post : ι → Sl → Prop}
theorem fn_okR (F : Fun K x qual st f fd) (S : FnScope N ps (defScope st)) (hA : ∀ i, (A i).length = ps.length)
    (body : ∀ (i : ι) (B : Bs) (cdv : Value) (A' : Around) (outer : List Env) (s : Shared) (H : Hp) (E : XK), pre i → Room k (A'.deeper (envOfC qual (defScope st) s.heap.objs.size f cdv)) →
      HT (cxOf (L2N.CX P w) P w K mg base N qual (defScope st) f cdv A' outer s H E) B ⟨fun _ => post i (im rU ()), post i, fun _ => False, fun _ => False⟩ (c0 (A i) (N.length - ps.length)) (defBody st)) :
    FnOk P w K mg base (L2N.CX P w) (k + 1) f fd ps (spR A pre post) := by
  refine okN F S (fun vs H Q E ⟨i, F, _, hv, _⟩ => by rw [hv.len, hA i]) fun cdv A' outer s H vs Q E hr ⟨i, F0, hF, hv, hp, h1⟩ => ⟨_, pss_w, ?_⟩
  have hn : vs.length = ps.length := by rw [hv.len, hA i]
  have g0 : Sg ⟨F0, H⟩ (c0 (A i) (N.length - ps.length)) (L2.start N vs) F0 H := ⟨[], by
    unfold L2.start
    rw [hn]
    exact SgL.args _ hv, Ex.refl _, Ex.refl _, hF, fun _ h _ => h, List.nodup_nil, fun _ h => (nomatch h), fun _ h => nomatch h⟩
  refine wS.mono (body i ⟨F0, H⟩ cdv A' outer s H E hp hr _ F0 H g0) (fun σ' H' h => ?_) (fun v H' h => ?_) (fun _ _ h => ?_) (fun _ _ h => ?_)
  · obtain ⟨Γ, F', ⟨l, _, d⟩, h⟩ := h
    exact h1 (im Lg.rU ()) h .non F' H' [] ⟨d.ef, d.eb, d.e, fun a q1 q2 => d.k a q1 q2⟩ ⟨rfl, rfl⟩ fun _ h => nomatch h
  · obtain ⟨s', F', l, p, d, h⟩ := h
    exact h1 _ h v F' H' l ⟨d.ef, d.eb, d.e, fun a q1 q2 => d.k a q1 q2⟩ p fun a ha => ⟨d.ob a ha, d.of a ha⟩
  · obtain ⟨_, _, _, h⟩ := h; exact h.elim
  · obtain ⟨_, _, _, h⟩ := h; exact h.elim
end
theorem rQ.ofL {α : Type} {R : Rl α} {F : Hp} {v : V} {l : List α} (h : (rL R).r F v l) : (rQ R).r F v (false, l) := ⟨fun z => (nomatch z), fun _ => h⟩
theorem rQ.ofT {α : Type} {R : Rl α} {F : Hp} {v : V} {l : List α} (h : (rT R).r F v l) : (rQ R).r F v (true, l) := ⟨fun _ => h, fun z => (nomatch z)⟩
theorem rL.conv {α β : Type} {R : Rl α} {S : Rl β} {F : Hp} {v : V} (f : α → β) {as : List α} (h : ∀ a ∈ as, ∀ v, R.r F v a → S.r F v (f a)) (k : (rL R).r F v as) : (rL S).r F v (as.map f) := by
  obtain ⟨p, xs, h1, h2, h3⟩ := k
  refine ⟨p, xs, h1, h2, ?_⟩
  clear h2 h1
  induction h3 with
  | nil => exact .nil
  | cons x t ih => exact .cons (h _ List.mem_cons_self _ x) (ih fun a ha => h a (List.mem_cons_of_mem _ ha))
end Lg

namespace Lg
open PySem L2 Evl PyProof.Rows
/-- what never comes -/
def noS : Sl := ⟨fun _ _ _ _ => False, fun _ _ h => h, fun h => h.elim, fun h => h.elim⟩
section
variable {X : Cx} {b : Bs} {D : EndC} {Γ : Ctx} {e e1 e2 : Expr} {es : List Expr} {α β : Type} {R : Rl α} {S : Rl β} {x y : α} {n : Str} {pos p pos' : Pos} {rest : List Stmt} {c : Bool} {ι : Type} {A : ι → List Im} {pre : ι → Prop} {i : ι} {ps : List Str} {k : Nat} {C : Addr} {W : WX} {cx : Str}
theorem HT.exprNo (he : EV X b Γ e noS) (hs : swapsWith e none pos.line X.env = pure false := by rfl) : HT X b D Γ (.Expr e pos :: rest) :=
  HT.step (ps_expr pe_w hs) fun σ F H ⟨l, g, d⟩ => he σ F H l g d _ fun v F' H' l' w p f => p.elim
theorem HT.setNo (j : Nat) (he : EV X b Γ e noS) (nd : X.N.Nodup) (hi : X.N[j]? = some n := by rfl) (hx : Loc X.env.scope n := by first | exact Or.inl rfl | exact Or.inr rfl) (hs : swapsWith e (some (.Name n pos')) pos.line X.env = pure false := by rfl)
    (hf : X.fn n = true ∨ X.env.scope.names.lookup n = some .local := by first | exact .inl rfl | exact .inr rfl | assumption) : HT X b D Γ (.Assign [.Name n pos'] e pos :: rest) :=
  HT.step (ps_set nd hi hx pe_w hs hf) fun σ F H ⟨l, g, d⟩ => he σ F H l g d _ fun v F' H' l' w p f => p.elim
/-- C(..), whatever comes of it -/
theorem EV.makeG {S : Rl β} {s : Sl} {ri : ι → Except Addr β} (T : KnI X.prog X.w X.K X.mg X.base k C cx ps (spI C A pre S ri)) (hr : Room (k + 1) X.A) (tk : L2N.Takes X W) (ha : AV X b Γ (e :: es) (A i)) (hp : pre i) (h1 : ∀ y', ri i = .ok y' → im S y' = s) (h2 : ∀ C, ri i = .error C → Xw b Γ W C) (hg : Gl X cx := by rfl)
    (hdb : (cx == ("__debug__" : Str)) = false := by decide) (he : starEach (e :: es) X.env = (false, eval e X.env) :: starEach es X.env := by rfl) (hpl : (backTo pos (starEach es X.env)).any (·.1) = false := by rfl) : EV X b Γ (.Call (.Name cx p) (e :: es) [] pos) s := by
  obtain ⟨ta, p1, p2⟩ := ha
  obtain ⟨f, fd, F, hM, hm, hb⟩ := T.ex
  refine EV.of (pe_makeS hM F hr hg hm hb (fun σ => L2N.passAt tk σ) p1 hdb he hpl) fun σ F H l g d Q q => p2 σ F H l g d _ fun vs F1 H1 w hv => ?_
  refine fun x dx hx hdx ne => ⟨i, F1, H1, x, dx, vs, rfl, hx, hdx, ne, rfl, w.e, hv, hp, fun y' hy F' H' w' p => ?_, fun C hC H' h => ?_⟩
  · have e := h1 y' hy
    subst e
    exact ⟨rfl, q _ F' H' [] (w.trans w') ⟨rfl, p⟩ fun _ h => nomatch h⟩
  · have w2 := w.trans (Ex.gw w.e h)
    exact h2 C hC σ F1 H' ⟨l, g.grow w2, d.grow g.t w2⟩
theorem set_same {α : Type} : ∀ {l : List α} {i : Nat} {x : α}, l[i]? = some x → l.set i x = l
  | [], _, _, h => by simp at h
  | a :: l, 0, x, h => by simp at h; subst h; rfl
  | a :: l, i + 1, x, h => by
    show a :: l.set i x = a :: l
    rw [set_same (by simpa using h)]
/-- if e1: name = e2 -/
theorem HT.ifSet {ap : Pos} (j : Nat) (hΓ : Γ[j]? = some (some (im R x))) (h : TV X b Γ e1 c) (h1 : c = true → EV X b Γ e2 (im R y)) (k : HT X b D (Γ.set j (some (im R (if c then y else x)))) rest) (nd : X.N.Nodup) (hi : X.N[j]? = some n := by rfl) (hx : Loc X.env.scope n := by first | exact Or.inl rfl | exact Or.inr rfl) (hs : swapsWith e2 (some (.Name n pos')) ap.line X.env = pure false := by rfl)
    (hf : X.fn n = true ∨ X.env.scope.names.lookup n = some .local := by first | exact .inl rfl | exact .inr rfl | assumption) : HT X b D Γ (.If e1 [.Assign [.Name n pos'] e2 ap] [] pos :: rest) := by
  refine HT.when h (fun hc => HT.set j (h1 hc) (HT.nil ?_) nd hi hx hs hf) fun hc => ?_
  · rw [if_pos hc] at k; exact k
  · rw [if_neg (by rw [hc]; decide), set_same hΓ] at k; exact k
end
end Lg

namespace Lg
open PySem L2 Evl PyProof.Rows
/-! ### what is data is locked: dicts and lists that no one changes any more -/
def rDK {β : Type} (S : Rl β) : Rl (List (Key × β)) :=
  ⟨fun F v kvs => ∃ a o ws, v = .ref a ∧ F a = some (.frz o (.dK ws)) ∧ KvR (S.r F) ws kvs, fun e ⟨a, o, ws, h1, h2, h3⟩ => ⟨a, o, ws, h1, e a _ h2, h3.imp fun _ _ => S.m e⟩⟩
def rLK {α : Type} (R : Rl α) : Rl (List α) :=
  ⟨fun F v as => ∃ a o xs, v = .ref a ∧ F a = some (.frz o (.lst xs)) ∧ All2 (R.r F) xs as, fun e ⟨a, o, xs, h1, h2, h3⟩ => ⟨a, o, xs, h1, e a _ h2, h3.imp fun _ _ => R.m e⟩⟩
theorem wE.alter {X : Cx} {e : Expr} {σ : L2.St} {H : Hp} {Q0 Q : VK} (h : wE X e σ H Q0) (k : ∀ pins s v H1, Inv X pins σ H1 s → Q0 v H1 → ∃ H2, Inv X pins σ H2 s ∧ Q v H2) : wE X e σ H Q := fun pins s I =>
  thn (h pins s I) fun u s1 ⟨v, H1, I1, r, q⟩ => by
    obtain ⟨H2, I2, q2⟩ := k pins s1 v H1 I1 q
    exact ⟨v, H2, I2, r, q2⟩
section
variable {X : Cx} {b : Bs} {Γ : Ctx} {α β γ : Type} {R : Rl α} {S : Rl β} {x : α} {y : β} {e e1 e2 : Expr} {pos np : Pos} {kvs : List (Key × β)} {k : Key} {as : List α} {n : Str} {C : EndC} {sts : List Stmt}
theorem EV.lkD (h : EV X b Γ e (owD S kvs)) : EV X b Γ e (im (rDK S) kvs) := fun σ F H l g d Q q =>
  wE.alter (Q0 := fun v H1 => ∃ p ws, v = .ref p ∧ H1 p = some (.dK ws) ∧ ∀ o, Q v (upd H1 p (.frz o (.dK ws)))) (h σ F H l g d _ fun v F' H' l' w ⟨p, ws, h1, h2, h3, h4⟩ f => by
    subst h1 h2
    obtain ⟨f1, f2⟩ := f p (List.mem_singleton.mpr rfl)
    refine ⟨p, ws, rfl, h3, fun o => q _ (upd F' p (.frz o (.dK ws))) _ [] ⟨w.f.trans (Ex.new f2), fun a u ha => ?_, fun a u ha => ?_, fun a h1 h2 => ?_⟩ ⟨rfl, p, o, ws, rfl, upd_same, h4.imp fun _ _ => S.m (Ex.new f2)⟩ fun _ z => nomatch z⟩
    · rw [upd_ne (ne_of_none ha f1)]; exact w.h a u ha
    · by_cases z : a = p
      · subst z; rw [upd_same] at ha ⊢; exact ha
      · rw [upd_ne z] at ha ⊢; exact w.e a u ha
    · rw [upd_ne fun z => h2 (by rw [z]; exact f1)]; exact w.k a h1 h2) fun pins s v H1 I ⟨p, ws, _, h3, q⟩ => by
    obtain ⟨od, I1⟩ := I.lock h3 trivial
    exact ⟨_, I1, q od⟩
theorem EV.lkL (h : EV X b Γ e (ow R as)) : EV X b Γ e (im (rLK R) as) := fun σ F H l g d Q q =>
  wE.alter (Q0 := fun v H1 => ∃ p xs, v = .ref p ∧ H1 p = some (.lst xs) ∧ ∀ o, Q v (upd H1 p (.frz o (.lst xs)))) (h σ F H l g d _ fun v F' H' l' w ⟨p, xs, h1, h2, h3, h4⟩ f => by
    subst h1 h2
    obtain ⟨f1, f2⟩ := f p (List.mem_singleton.mpr rfl)
    refine ⟨p, xs, rfl, h3, fun o => q _ (upd F' p (.frz o (.lst xs))) _ [] ⟨w.f.trans (Ex.new f2), fun a u ha => ?_, fun a u ha => ?_, fun a h1 h2 => ?_⟩ ⟨rfl, p, o, xs, rfl, upd_same, h4.imp fun _ _ => R.m (Ex.new f2)⟩ fun _ z => nomatch z⟩
    · rw [upd_ne (ne_of_none ha f1)]; exact w.h a u ha
    · by_cases z : a = p
      · subst z; rw [upd_same] at ha ⊢; exact ha
      · rw [upd_ne z] at ha ⊢; exact w.e a u ha
    · rw [upd_ne fun z => h2 (by rw [z]; exact f1)]; exact w.k a h1 h2) fun pins s v H1 I ⟨p, xs, _, h3, q⟩ => by
    obtain ⟨od, I1⟩ := I.lock h3 trivial
    exact ⟨_, I1, q od⟩
theorem HT.lkD (i : Nat) (hΓ : Γ[i]? = some (some (owD S kvs))) (k : HT X b C (Γ.set i (some (im (rDK S) kvs))) sts) : HT X b C Γ sts := fun σ F H ⟨l, g, d⟩ pins s I => by
  obtain ⟨v, l1, h1, ⟨p, ws, rfl, rfl, h4, h5⟩, h6, h7⟩ := g.frz d.nd hΓ
  have hp := h6 p (List.mem_singleton.mpr rfl)
  have fp := d.of p hp
  obtain ⟨od, I1⟩ := I.lock h4 trivial
  obtain ⟨l2, k1, k2, k3⟩ := h7 (upd F p (.frz od (.dK ws))) (im (rDK S) kvs) (Ex.new fp) ⟨rfl, p, od, ws, rfl, upd_same, h5.imp fun _ _ => S.m (Ex.new fp)⟩
  refine k σ (upd F p (.frz od (.dK ws))) (upd H p (.frz od (.dK ws))) ⟨l2, k1.m (Ex.refl _) (fun a ha => upd_ne fun z => (k3 a ha).2 (List.mem_singleton.mpr z)), d.ef.trans (Ex.new fp), Ex.mut d.eb (d.ob p hp), fun a u ha => ?_, fun a q1 q2 => ?_, k2, fun a ha => ?_, fun a ha => d.ob a (k3 a ha).1⟩ pins s I1
  · by_cases z : a = p
    · subst z; rw [upd_same] at ha ⊢; exact ha
    · rw [upd_ne z] at ha ⊢; exact d.e a u ha
  · rw [upd_ne fun z => q2 (by rw [z]; exact d.ob p hp)]; exact d.k a q1 q2
  · rw [upd_ne fun z => (k3 a ha).2 (List.mem_singleton.mpr z)]; exact d.of a (k3 a ha).1
theorem HT.lkL (i : Nat) (hΓ : Γ[i]? = some (some (ow R as))) (k : HT X b C (Γ.set i (some (im (rLK R) as))) sts) : HT X b C Γ sts := fun σ F H ⟨l, g, d⟩ pins s I => by
  obtain ⟨v, l1, h1, ⟨p, ws, rfl, rfl, h4, h5⟩, h6, h7⟩ := g.frz d.nd hΓ
  have hp := h6 p (List.mem_singleton.mpr rfl)
  have fp := d.of p hp
  obtain ⟨od, I1⟩ := I.lock h4 trivial
  obtain ⟨l2, k1, k2, k3⟩ := h7 (upd F p (.frz od (.lst ws))) (im (rLK R) as) (Ex.new fp) ⟨rfl, p, od, ws, rfl, upd_same, h5.imp fun _ _ => R.m (Ex.new fp)⟩
  refine k σ (upd F p (.frz od (.lst ws))) (upd H p (.frz od (.lst ws))) ⟨l2, k1.m (Ex.refl _) (fun a ha => upd_ne fun z => (k3 a ha).2 (List.mem_singleton.mpr z)), d.ef.trans (Ex.new fp), Ex.mut d.eb (d.ob p hp), fun a u ha => ?_, fun a q1 q2 => ?_, k2, fun a ha => ?_, fun a ha => d.ob a (k3 a ha).1⟩ pins s I1
  · by_cases z : a = p
    · subst z; rw [upd_same] at ha ⊢; exact ha
    · rw [upd_ne z] at ha ⊢; exact d.e a u ha
  · rw [upd_ne fun z => q2 (by rw [z]; exact d.ob p hp)]; exact d.k a q1 q2
  · rw [upd_ne fun z => (k3 a ha).2 (List.mem_singleton.mpr z)]; exact d.of a (k3 a ha).1
/-! ### a list of one's own, lent for an expression whose value tells of no open list -/
def NoL {β : Type} (S : Rl β) : Prop := ∀ {F F' : Hp} {v : V} {y : β}, (∀ a o, F a = some o → (∀ xs, o ≠ .lst xs) → (∀ ws, o ≠ .dK ws) → F' a = some o) → S.r F v y → S.r F' v y
theorem NoL.int : NoL rI := fun _ h => h
theorem NoL.bool : NoL rB := fun _ h => h
theorem NoL.str : NoL rS := fun _ h => h
theorem NoL.unit : NoL rU := fun _ h => h
theorem NoL.opt (h : NoL S) : NoL (rO S) := fun {F F' v y} k q => by
  cases y with
  | none => exact q
  | some z => exact h k q
theorem NoL.lk (h : NoL R) : NoL (rLK R) := fun k ⟨a, o, xs, h1, h2, h3⟩ => ⟨a, o, xs, h1, k a _ h2 (fun _ z => nomatch z) (fun _ z => nomatch z), h3.imp fun _ _ => h k⟩
theorem NoL.dk (h : NoL S) : NoL (rDK S) := fun k ⟨a, o, ws, h1, h2, h3⟩ => ⟨a, o, ws, h1, k a _ h2 (fun _ z => nomatch z) (fun _ z => nomatch z), h3.imp fun _ _ => h k⟩
theorem Fls.noL {F F' : Hp} (k : ∀ a o, F a = some o → (∀ xs, o ≠ .lst xs) → (∀ ws, o ≠ .dK ws) → F' a = some o) {ws : List (Str × V)} {xs : List (Str × Im)} (h : ∀ p ∈ xs, NoL p.2.R) (t : Fls F ws xs) : Fls F' ws xs := by
  induction t with
  | nil => exact .nil
  | cons q t ih => exact .cons (h _ List.mem_cons_self k q) (ih fun p hp => h p (List.mem_cons_of_mem _ hp))
theorem NoL.obj {D : Addr} {fs : α → List (Str × Im)} (h : ∀ x, ∀ p ∈ fs x, NoL p.2.R) : NoL (rObj D fs) := fun k ⟨a, dx, ws, h1, h2, h3⟩ => ⟨a, dx, ws, h1, k a _ h2 (fun _ z => nomatch z) (fun _ z => nomatch z), Fls.noL k (h _) h3⟩
theorem Gw.hide {F H F' H' : Hp} {p : Addr} {o : HO} (fp : F p = none) (hp : H p = some o) (w : Gw (upd F p o) H F' H') : Gw F H (fun a => if a = p then none else F' a) H' := by
  refine ⟨fun a u ha => ?_, w.h, fun a u ha => ?_, fun a h1 h2 => ?_⟩
  · have z : a ≠ p := ne_of_none ha fp
    show (if a = p then none else F' a) = some u
    rw [if_neg z]
    exact w.f a u (by rw [upd_ne z]; exact ha)
  · have ha : (if a = p then none else F' a) = some u := ha
    by_cases z : a = p
    · rw [if_pos z] at ha; cases ha
    · rw [if_neg z] at ha; exact w.e a u ha
  · show (if a = p then none else F' a) = none
    by_cases z : a = p
    · rw [if_pos z]
    · rw [if_neg z]; exact w.k a (by rw [upd_ne z]; exact h1) h2
theorem lend {σ : L2.St} {F H : Hp} {l : List Addr} (i : Nat) (hΓ : Γ[i]? = some (some (ow R as))) (g : SgL F H Γ σ l) (d : Gd b F H l) : ∃ p xs l2, F p = none ∧ H p = some (.lst xs) ∧ SgL (upd F p (.lst xs)) H (Γ.set i (some (im (rL R) as))) σ l2 ∧ Gd b (upd F p (.lst xs)) H l2 := by
  obtain ⟨v, l1, h1, ⟨p, xs, rfl, rfl, h4, h5⟩, h6, h7⟩ := g.frz d.nd hΓ
  have hp := h6 p (List.mem_singleton.mpr rfl)
  have fp := d.of p hp
  obtain ⟨l2, k1, k2, k3⟩ := h7 (upd F p (.lst xs)) (im (rL R) as) (Ex.new fp) ⟨rfl, p, xs, rfl, upd_same, h5.imp fun _ _ => R.m (Ex.new fp)⟩
  refine ⟨p, xs, l2, fp, h4, k1, d.ef.trans (Ex.new fp), d.eb, fun a u ha => ?_, fun a q1 q2 => ?_, k2, fun a ha => ?_, fun a ha => d.ob a (k3 a ha).1⟩
  · by_cases z : a = p
    · subst z; rw [upd_same] at ha; rw [h4]; exact ha
    · rw [upd_ne z] at ha; exact d.e a u ha
  · rw [upd_ne fun z => q2 (by rw [z]; exact d.ob p hp)]; exact d.k a q1 q2
  · rw [upd_ne fun z => (k3 a ha).2 (List.mem_singleton.mpr z)]; exact d.of a (k3 a ha).1
theorem EV.lend (i : Nat) (hΓ : Γ[i]? = some (some (ow R as))) (hS : NoL S) (h : EV X b (Γ.set i (some (im (rL R) as))) e (im S y)) : EV X b Γ e (im S y) := fun σ F H l g d Q q => by
  obtain ⟨p, xs, l2, fp, hp, g2, d2⟩ := Lg.lend i hΓ g d
  refine h σ _ H l2 g2 d2 Q fun v F' H' l' w ⟨e1, e2⟩ _ => ?_
  subst e1
  have Fp : F' p = some (.lst xs) := w.f p _ upd_same
  refine q v _ H' [] (Gw.hide fp hp w) ⟨rfl, hS (fun a o ha no _ => ?_) e2⟩ fun _ z => nomatch z
  show (if a = p then none else F' a) = some o
  rw [if_neg fun z => no xs (by rw [z, Fp] at ha; cases ha; rfl)]
  exact ha
theorem TV.lend {c : Bool} (i : Nat) (hΓ : Γ[i]? = some (some (ow R as))) (h : TV X b (Γ.set i (some (im (rL R) as))) e c) : TV X b Γ e c := fun σ F H l g d Q q => by
  obtain ⟨p, xs, l2, fp, hp, g2, d2⟩ := Lg.lend i hΓ g d
  exact h σ _ H l2 g2 d2 Q fun F' H' w => q _ H' (Gw.hide fp hp w)
theorem lendD {σ : L2.St} {F H : Hp} {l : List Addr} (i : Nat) (hΓ : Γ[i]? = some (some (owD S kvs))) (g : SgL F H Γ σ l) (d : Gd b F H l) : ∃ p ws l2, F p = none ∧ H p = some (.dK ws) ∧ SgL (upd F p (.dK ws)) H (Γ.set i (some (im (rD S) kvs))) σ l2 ∧ Gd b (upd F p (.dK ws)) H l2 := by
  obtain ⟨v, l1, h1, ⟨p, xs, rfl, rfl, h4, h5⟩, h6, h7⟩ := g.frz d.nd hΓ
  have hp := h6 p (List.mem_singleton.mpr rfl)
  have fp := d.of p hp
  obtain ⟨l2, k1, k2, k3⟩ := h7 (upd F p (.dK xs)) (im (rD S) kvs) (Ex.new fp) ⟨rfl, p, xs, rfl, upd_same, h5.imp fun _ _ => S.m (Ex.new fp)⟩
  refine ⟨p, xs, l2, fp, h4, k1, d.ef.trans (Ex.new fp), d.eb, fun a u ha => ?_, fun a q1 q2 => ?_, k2, fun a ha => ?_, fun a ha => d.ob a (k3 a ha).1⟩
  · by_cases z : a = p
    · subst z; rw [upd_same] at ha; rw [h4]; exact ha
    · rw [upd_ne z] at ha; exact d.e a u ha
  · rw [upd_ne fun z => q2 (by rw [z]; exact d.ob p hp)]; exact d.k a q1 q2
  · rw [upd_ne fun z => (k3 a ha).2 (List.mem_singleton.mpr z)]; exact d.of a (k3 a ha).1
theorem EV.lendD {T : Rl γ} {z : γ} (i : Nat) (hΓ : Γ[i]? = some (some (owD S kvs))) (hS : NoL T) (h : EV X b (Γ.set i (some (im (rD S) kvs))) e (im T z)) : EV X b Γ e (im T z) := fun σ F H l g d Q q => by
  obtain ⟨p, xs, l2, fp, hp, g2, d2⟩ := Lg.lendD i hΓ g d
  refine h σ _ H l2 g2 d2 Q fun v F' H' l' w ⟨e1, e2⟩ _ => ?_
  subst e1
  have Fp : F' p = some (.dK xs) := w.f p _ upd_same
  refine q v _ H' [] (Gw.hide fp hp w) ⟨rfl, hS (fun a o ha _ no => ?_) e2⟩ fun _ z => nomatch z
  show (if a = p then none else F' a) = some o
  rw [if_neg fun z => no xs (by rw [z, Fp] at ha; cases ha; rfl)]
  exact ha
theorem TV.lendD {c : Bool} (i : Nat) (hΓ : Γ[i]? = some (some (owD S kvs))) (h : TV X b (Γ.set i (some (im (rD S) kvs))) e c) : TV X b Γ e c := fun σ F H l g d Q q => by
  obtain ⟨p, xs, l2, fp, hp, g2, d2⟩ := Lg.lendD i hΓ g d
  exact h σ _ H l2 g2 d2 Q fun F' H' w => q _ H' (Gw.hide fp hp w)
end
end Lg

namespace Lg
open PySem L2 Evl PyProof.Rows
/-! ### dicts that are data, by either way of telling -/
def Dic {β : Type} (D : Rl (List (Key × β))) (S : Rl β) : Prop := ∀ {F : Hp} {v : V} {kvs : List (Key × β)}, D.r F v kvs → ∃ a ws, v = .ref a ∧ (F a = some (.dK ws) ∨ ∃ o, F a = some (.frz o (.dK ws))) ∧ KvR (S.r F) ws kvs
theorem Dic.pl {β : Type} {S : Rl β} : Dic (rD S) S := fun ⟨a, ws, h1, h2, h3⟩ => ⟨a, ws, h1, .inl h2, h3⟩
theorem Dic.lk {β : Type} {S : Rl β} : Dic (rDK S) S := fun ⟨a, o, ws, h1, h2, h3⟩ => ⟨a, ws, h1, .inr ⟨o, h2⟩, h3⟩
theorem rd_ex {F H : Hp} {a : Addr} {u : HO} (e : Ex F H) (h : F a = some u ∨ ∃ o, F a = some (.frz o u)) : Rd H a u := by
  rcases h with h | ⟨o, h⟩
  · exact .inl (e a _ h)
  · exact .inr ⟨o, e a _ h⟩
/-- the keys of a row -/
def ks {β : Type} (kvs : List (Key × β)) (ns : List Str) : Prop := kvs.map (·.1) = ns.map Sum.inr
theorem KvR.keys {β : Type} {p : V → β → Prop} : ∀ {ws kvs}, KvR p ws kvs → ws.map (·.1) = kvs.map (·.1) := fun h => by
  induction h with
  | nil => rfl
  | cons _ _ ih => rw [List.map_cons, List.map_cons, ih]
theorem ks_at {β : Type} {ws : List (Key × β)} {ns : List Str} (h : ks ws ns) {i : Nat} {k : Key} {v : β} (e : ws[i]? = some (k, v)) : ∃ n, ns[i]? = some n ∧ k = Sum.inr n := by
  have q : (ws.map (·.1))[i]? = some k := by rw [List.getElem?_map, e]; rfl
  rw [show ws.map (·.1) = ns.map Sum.inr from h, List.getElem?_map] at q
  cases z : ns[i]? with
  | none => rw [z] at q; cases q
  | some n => rw [z] at q; cases q; exact ⟨n, rfl, rfl⟩
theorem all2_keys : ∀ {ws : List (Key × V)} {ns : List Str}, ks ws ns → ∀ F : Hp, All2 (rS.r F) (ws.map fun kv => kV kv.1) ns
  | [], [], _, _ => .nil
  | [], _ :: _, h, _ => nomatch h
  | _ :: _, [], h, _ => nomatch h
  | kv :: ws, n :: ns, h, F => by
    have h : kv.1 :: ws.map (·.1) = Sum.inr n :: ns.map Sum.inr := h
    injection h with h1 h2
    exact .cons (by show kV kv.1 = V.str n; rw [h1]; rfl) (all2_keys (ws := ws) (ns := ns) h2 F)
section
variable {X : Cx} {b : Bs} {Γ : Ctx} {α β γ : Type} {R : Rl α} {S : Rl β} {T : Rl γ} {D : Rl (List (Key × β))} {x : α} {y : β} {e e1 e2 e3 tg : Expr} {pos p np : Pos} {kvs : List (Key × β)} {k : Key} {as : List α} {n : Str} {C : EndC} {rest sts : List Stmt} {z : Str} {c1 c2 : Bool}
theorem EV.inK (hD : Dic D S) (hu : X.A.units + 1 < cLine) (hk : EV X b Γ e1 (im R x)) (hx : ∀ F v, R.r F v x → v = kV k) (hd : EV X b Γ e2 (im D kvs)) (hm : behindInMarks .In e2 = false := by rfl) : EV X b Γ (.Compare e1 [.In] [e2] pos) (im rB (kget kvs k).isSome) := EV.of (pe_cmp (pc_din hu pe_w pe_w) hm) (EvS.mki fun σ F H l g d Q q =>
  hk σ F H l g d _ fun v F1 H1 l1 w1 p1 _ => hd σ F1 H1 l (g.grow w1) (d.grow g.t w1) _ fun u F2 H2 l2 w2 ⟨_, h⟩ _ => by
    obtain ⟨a, ws, h1, h2, h3⟩ := hD h
    refine ⟨a, valV ws k, h1, .inl ⟨ws, k, rd_ex w2.e h2, hx F1 v p1.2, rfl⟩, q _ F2 H2 (w1.trans w2) ?_⟩
    have t := h3.get k
    show V.bl _ = V.bl _
    cases z : kget kvs k with
    | none => rw [z] at t; rw [t]; rfl
    | some y => rw [z] at t; obtain ⟨u, t, _⟩ := t; rw [t]; rfl)
theorem EV.ninK (hD : Dic D S) (hu : X.A.units + 1 < cLine) (hk : EV X b Γ e1 (im R x)) (hx : ∀ F v, R.r F v x → v = kV k) (hd : EV X b Γ e2 (im D kvs)) (hm : behindInMarks .NotIn e2 = false := by rfl) : EV X b Γ (.Compare e1 [.NotIn] [e2] pos) (im rB (!(kget kvs k).isSome)) := EV.of (pe_cmp (pc_dnotin hu pe_w pe_w) hm) (EvS.mki fun σ F H l g d Q q =>
  hk σ F H l g d _ fun v F1 H1 l1 w1 p1 _ => hd σ F1 H1 l (g.grow w1) (d.grow g.t w1) _ fun u F2 H2 l2 w2 ⟨_, h⟩ _ => by
    obtain ⟨a, ws, h1, h2, h3⟩ := hD h
    refine ⟨a, valV ws k, h1, .inl ⟨ws, k, rd_ex w2.e h2, hx F1 v p1.2, rfl⟩, q _ F2 H2 (w1.trans w2) ?_⟩
    have t := h3.get k
    show V.bl _ = V.bl _
    cases z : kget kvs k with
    | none => rw [z] at t; rw [t]; rfl
    | some y => rw [z] at t; obtain ⟨u, t, _⟩ := t; rw [t]; rfl)
theorem EV.getK (hD : Dic D S) {v : β} (hu : X.A.units + 1 < cLine) (hd : EV X b Γ e1 (im D kvs)) (hk : EV X b Γ e2 (im R x)) (hx : ∀ F v, R.r F v x → v = kV k) (hv : kget kvs k = some v) (hs : NoSl e2 := by exact (fun _ _ => rfl)) : EV X b Γ (.Subscript e1 e2 pos) (im S v) := EV.of (pe_dget hu pe_w pe_w hs) (EvS.mki fun σ F H l g d Q q =>
  hd σ F H l g d _ fun u F1 H1 l1 w1 ⟨_, h⟩ _ => hk σ F1 H1 l (g.grow w1) (d.grow g.t w1) _ fun w F2 H2 l2 w2 p2 _ => by
    obtain ⟨a, ws, h1, h2, h3⟩ := hD h
    have t := h3.get k
    rw [hv] at t
    obtain ⟨u2, t1, t2⟩ := t
    refine ⟨a, u2, h1, .inl ⟨ws, k, ?_, hx F2 w p2.2, t1.symm⟩, q _ F2 H2 (w1.trans w2) (S.m w2.f t2)⟩
    exact rd_ex (w1.e.trans w2.h) h2)
/-- for n in d -/
theorem IV.keys {ns : List Str} (h : EV X b Γ e (im (rDK S) kvs)) (hk : ks kvs ns) : IV X b Γ tg e ns.length (IL rS ns) := ⟨_, pi_keys pe_w, fun σ F H l g d Q q => h σ F H l g d _ fun v F1 H1 l1 w ⟨_, a, o, ws, h1, h2, h3⟩ _ => by
  have hkw : ks ws ns := by rw [ks, h3.keys]; exact hk
  have hl : ws.length = ns.length := by
    have := congrArg List.length hkw
    rwa [List.length_map, List.length_map] at this
  refine ⟨a, o, h1, .inl ⟨ws, w.e a _ h2, q _ F1 H1 w ?_⟩⟩
  rw [← hl]
  refine ⟨_, _, walk_keys, fun F' H' e1 e2 => e2 a _ (e1 a _ h2), fun i F' H' v H'' hi e1 e2 y => ?_⟩
  obtain ⟨rfl, k, u, hy, rfl⟩ := y
  obtain ⟨n, k1, rfl⟩ := ks_at hkw hy
  exact ⟨F', mk rS n, Gw.refl e2, ⟨n, k1, rfl⟩, rfl⟩⟩
/-- list(d) -/
theorem EV.listK {ns : List Str} (hD : Dic D S) (ha : AV X b Γ [e] [mk D kvs]) (hk : ks kvs ns) (hm : X.mg "list" = none) (hg : Gl X "list" := by rfl) (hc : X.calm = true := by rfl) (he : starEach [e] X.env = (false, eval e X.env) :: starEach [] X.env := by rfl) : EV X b Γ (.Call (.Name "list" p) [e] [] pos) (ow rS ns) := by
  obtain ⟨ta, p1, p2⟩ := ha
  refine EV.of (pe_callTy (call_listD hc) hg hm (by decide +kernel) p1 (he := he) (hpl := rfl)) fun σ F H l g d Q q => p2 σ F H l g d _ fun vs F1 H1 w hv => ?_
  obtain ⟨v, rfl, hv2⟩ := ims1 hv
  have hv2 : D.r F1 v kvs := hv2
  obtain ⟨a, ws, h1, h2, h3⟩ := hD hv2
  refine ⟨a, ws, by rw [h1], rd_ex w.e h2, fun r hr => ?_⟩
  have fr : F1 r = none := ex_none w.e hr
  refine q _ F1 _ [r] (w.trans (Gw.own w.e hr)) ⟨r, _, rfl, rfl, upd_same, all2_keys (by rw [ks, h3.keys]; exact hk) F1⟩ fun c hc => ?_
  rw [List.mem_singleton.mp hc]
  exact ⟨ex_none w.h hr, fr⟩
/-- truth of a dict, of a list -/
theorem tru_rd : TruR X (fun x H Q => ∃ a kvs, x = .ref a ∧ Rd H a (.dK kvs) ∧ Q (!kvs.isEmpty) H) := by
  intro pins s σ H x v Q I rx h
  obtain ⟨a, kvs, rfl, e, q⟩ := h
  cases rx
  exact d_truth I e fun s' I' => ⟨H, I', q⟩
theorem TV.truK (hD : Dic D S) (h : EV X b Γ e (im D kvs)) (he : ∀ whole, isTrue e X.env whole = (do let v ← whole; standAt e.pos; holding [v] (truthy v)) := by intro _; rfl) : TV X b Γ e (!kvs.isEmpty) := TV.of (pt_truthR pe_w tru_rd he) fun σ F H l g d Q q =>
  h σ F H l g d _ fun v F1 H1 l1 w ⟨_, hv⟩ _ => by
    obtain ⟨a, ws, h1, h2, h3⟩ := hD hv
    refine ⟨a, ws, h1, rd_ex w.e h2, ?_⟩
    rw [show ws.isEmpty = kvs.isEmpty by cases h3 <;> rfl]
    exact q F1 H1 w
/-- lists that are data, by either way of telling -/
def Lis (L : Rl (List α)) (R : Rl α) : Prop := ∀ {F : Hp} {v : V} {as : List α}, L.r F v as → ∃ a xs, v = .ref a ∧ (F a = some (.lst xs) ∨ ∃ o, F a = some (.frz o (.lst xs))) ∧ All2 (R.r F) xs as
theorem Lis.pl : Lis (rL R) R := fun ⟨a, xs, h1, h2, h3⟩ => ⟨a, xs, h1, .inl h2, h3⟩
theorem Lis.lk : Lis (rLK R) R := fun ⟨a, o, xs, h1, h2, h3⟩ => ⟨a, xs, h1, .inr ⟨o, h2⟩, h3⟩
theorem sq_ex {K : PySem.W.Frag} {F H : Hp} {a : Addr} {xs : List V} (e : Ex F H) (h : F a = some (.lst xs) ∨ ∃ o, F a = some (.frz o (.lst xs))) : SqL K H a xs := .inl (rd_ex e h)
theorem TV.truL {L : Rl (List α)} (hL : Lis L R) (h : EV X b Γ e (im L as)) (he : ∀ whole, isTrue e X.env whole = (do let v ← whole; standAt e.pos; holding [v] (truthy v)) := by intro _; rfl) : TV X b Γ e (!as.isEmpty) := TV.of (pt_truth pe_w he) fun σ F H l g d Q q =>
  h σ F H l g d _ fun v F1 H1 l1 w ⟨_, hv⟩ _ => by
    obtain ⟨a, xs, rfl, h2, h3⟩ := hL hv
    refine ⟨!as.isEmpty, .inl ⟨xs, sq_ex w.e h2, ?_⟩, q F1 H1 w⟩
    cases h3 <;> rfl
theorem EV.notL {L : Rl (List α)} (hL : Lis L R) (h : EV X b Γ e (im L as)) : EV X b Γ (.UnaryOp .Not e pos) (im rB as.isEmpty) := EV.of (pe_notT pe_w) (EvS.mki fun σ F H l g d Q q =>
  h σ F H l g d _ fun v F1 H1 l1 w ⟨_, hv⟩ _ => by
    obtain ⟨a, xs, rfl, h2, h3⟩ := hL hv
    refine ⟨!as.isEmpty, .inl ⟨xs, sq_ex w.e h2, by cases h3 <;> rfl⟩, q _ F1 H1 w ?_⟩
    rw [Bool.not_not]; rfl)
theorem EV.listLK {L : Rl (List α)} (hL : Lis L R) (ha : AV X b Γ [e] [mk L as]) (hm : X.mg "list" = none) (hg : Gl X "list" := by rfl) (he : starEach [e] X.env = (false, eval e X.env) :: starEach [] X.env := by rfl) : EV X b Γ (.Call (.Name "list" p) [e] [] pos) (ow R as) := by
  obtain ⟨ta, p1, p2⟩ := ha
  refine EV.of (pe_callTy call_list_of hg hm (by decide +kernel) p1 (he := he) (hpl := rfl)) fun σ F H l g d Q q => p2 σ F H l g d _ fun vs F1 H1 w hv => ?_
  obtain ⟨v, rfl, hv2⟩ := ims1 hv
  have hv2 : L.r F1 v as := hv2
  obtain ⟨a, xs, rfl, h2, h3⟩ := hL hv2
  exact ⟨a, xs, rfl, .inl (sq_ex w.e h2), fun c hc => q _ F1 _ [c] (w.trans (Gw.own w.e hc)) ⟨c, xs, rfl, rfl, upd_same, h3⟩ fun c' hc' => by rw [List.mem_singleton.mp hc']; exact ⟨ex_none w.h hc, ex_none w.e hc⟩⟩
theorem IV.lst {L : Rl (List α)} (hL : Lis L R) (h : EV X b Γ e (im L as)) : IV X b Γ tg e as.length (IL R as) := ⟨_, pi_list pe_w, fun σ F H l g d Q q => h σ F H l g d _ fun v F1 H1 l1 w ⟨_, hv⟩ _ => by
  obtain ⟨a, xs, h1, h2, h3⟩ := hL hv
  refine ⟨a, h1, ⟨xs, sq_ex w.e h2⟩, q _ F1 H1 w ?_⟩
  rw [← h3.len]
  refine ⟨_, _, walk_list, fun F' H' e1 e2 => sq_ex (e1.trans e2) h2, fun i F' H' v H'' hi e1 e2 y => ?_⟩
  obtain ⟨rfl, hy⟩ := y
  obtain ⟨a0, k1, k2⟩ := h3.getV hy
  exact ⟨F', mk R a0, Gw.refl e2, ⟨a0, k1, rfl⟩, R.m e1 k2⟩⟩
/-- d[k] = v, the dict one's own -/
theorem HT.putK {np sp : Pos} (i : Nat) (hΓ : Γ[i]? = some (some (owD S kvs))) (hu : X.A.units + 1 < cLine) (he : EV X b Γ e (im S y)) (hk : EV X b Γ e1 (im R x)) (hx : ∀ F v, R.r F v x → v = kV k) (hz : kvs.length < 100000) (q : HT X b C (Γ.set i (some (owD S (kput kvs k y)))) rest) (hN : X.N[i]? = some n := by rfl) (hv : Vis X.env.scope n := by first | exact Or.inl rfl | exact Or.inr (Or.inl rfl) | exact Or.inr (Or.inr rfl))
    (hd : (n == ("__debug__" : Str)) = false := by decide) (hcd : (n == ("__classdict__" : Str)) = false := by decide) (hs : swapsWith e (some (.Subscript (.Name n np) e1 sp)) pos.line X.env = pure false := by rfl) :
    HT X b C Γ (.Assign [.Subscript (.Name n np) e1 sp] e pos :: rest) :=
  HT.step (ps_dput hu (pe_var hN hv hd hcd) pe_w pe_w hs) fun σ F H ⟨l, g, d⟩ => he σ F H l g d _ fun u F1 H1 l1 w1 p1 _ => by
    have g1 := g.grow w1
    have d1 := d.grow g.t w1
    obtain ⟨v0, l0, h0, ⟨p0, ws0, e0, _, _, _⟩, _⟩ := g1.get hΓ
    refine ⟨_, h0, hk σ F1 H1 l g1 d1 _ fun t F2 H2 l2 w2 p2 _ => ?_⟩
    have g2 := g1.grow w2
    have d2 := d1.grow g1.t w2
    obtain ⟨v, l3, h1, ⟨p, ws, rfl, rfl, h4, h5⟩, h6, h7⟩ := g2.mod d2.nd hΓ
    have hp := h6 p (List.mem_singleton.mpr rfl)
    rw [h0] at h1
    cases h1
    refine ⟨p, _, rfl, by rw [hx F2 t p2.2]; exact DPut.k h4 (by rw [h5.len]; exact Nat.lt_of_lt_of_le hz (by decide)), ?_⟩
    exact q σ F2 _ ⟨l, h7 _ _ (fun a ha => upd_ne fun z => ha (List.mem_singleton.mpr z)) ⟨p, _, rfl, rfl, upd_same, h5.put k (S.m w2.f p1.2)⟩, d2.ef, Ex.mut d2.eb (d2.ob p hp), Ex.mut d2.e (d2.of p hp), d2.k, d2.nd, d2.of, d2.ob⟩
end
end Lg

namespace Lg
open PySem L2 Evl PyProof.Rows
/-! ### texts -/
def sg (c : Nat) : Str := ⟨#[c]⟩
/-- the signs of a text -/
def cs (z : Str) : List Nat := z.cps.toList
theorem cs_len (z : Str) : (cs z).length = z.length := Array.length_toList
theorem cs_ext {x y : Str} (h : cs x = cs y) : x = y := by
  obtain ⟨⟨a⟩⟩ := x
  obtain ⟨⟨b⟩⟩ := y
  have h : a = b := h
  rw [h]
/-- scalars, flat -/
structure Flat {α : Type} (R : Rl α) (f : α → V) : Prop where
  u : ∀ {F v a}, R.r F v a → v = f a
  w : ∀ {F a}, R.r F (f a) a
  fl : ∀ a, flatV (f a) = true
  eq : ∀ a b, eqV (f a) (f b) = true ↔ a = b
theorem Flat.int : Flat rI V.int := ⟨fun h => h, rfl, fun _ => rfl, fun a b => beq_iff_eq⟩
theorem Flat.str : Flat rS V.str := ⟨fun h => h, rfl, fun _ => rfl, fun a b => beq_iff_eq⟩
def oV {α : Type} (f : α → V) : Option α → V
  | none => .non
  | some a => f a
theorem Flat.opt : Flat (rO rS) (oV V.str) := ⟨fun {F v a} h => by cases a <;> exact h, fun {F a} => by cases a <;> exact rfl, fun a => by cases a <;> rfl, fun a b => by
  cases a with
  | none => cases b with
    | none => exact ⟨fun _ => rfl, fun _ => rfl⟩
    | some b => exact ⟨fun h => absurd (show false = true from h) (by decide), fun h => absurd h (fun z => nomatch z)⟩
  | some a => cases b with
    | none => exact ⟨fun h => absurd (show false = true from h) (by decide), fun h => absurd h (fun z => nomatch z)⟩
    | some b => exact ⟨fun h => congrArg some ((Flat.str.eq a b).mp h), fun h => (Flat.str.eq a b).mpr (Option.some.inj h)⟩⟩
section
variable {α : Type} {R : Rl α} {f : α → V} [DecidableEq α]
theorem Flat.all {F : Hp} (h : Flat R f) {xs : List V} {as : List α} (t : All2 (R.r F) xs as) : xs = as.map f := by
  induction t with
  | nil => rfl
  | cons a _ ih => rw [h.u a, ih]; rfl
theorem Flat.flat (h : Flat R f) (as : List α) : (as.map f).all flatV = true := by
  induction as with
  | nil => rfl
  | cons a as ih =>
    show (flatV (f a) && (as.map f).all flatV) = true
    rw [h.fl a, ih]; rfl
theorem Flat.inV (h : Flat R f) (k : α) (as : List α) : L2.inV (f k) (as.map f) = decide (k ∈ as) := by
  induction as with
  | nil => simp [L2.inV]
  | cons a as ih =>
    show (eqV (f a) (f k) || L2.inV (f k) (as.map f)) = _
    rw [ih]
    by_cases z : k = a
    · subst z; rw [(h.eq k k).mpr rfl]; simp
    · have : eqV (f a) (f k) = false := Bool.eq_false_iff.mpr fun q => z ((h.eq a k).mp q).symm
      rw [this]; simp [z]
end
section
variable {X : Cx} {b : Bs} {Γ : Ctx} {α β γ : Type} {R : Rl α} {S : Rl β} {T : Rl γ} {L : Rl (List α)} {x : α} {y : β} {e e1 e2 e3 tg : Expr} {pos p np : Pos} {as : List α} {n : Str} {C : EndC} {rest sts bd : List Stmt} {z z1 z2 z3 : Str} {c1 c2 : Bool} {f : α → V} {i j k : Int}
theorem EV.inF [DecidableEq α] (hF : Flat R f) (hL : Lis L R) (hk : EV X b Γ e1 (im R x)) (hl : EV X b Γ e2 (im L as)) (hm : behindInMarks .In e2 = false := by rfl) : EV X b Γ (.Compare e1 [.In] [e2] pos) (im rB (decide (x ∈ as))) := EV.of (pe_cmpR op_in_seq pe_w pe_w hm) (EvS.op2i hk hl fun F H v w ef h1 h2 Q q => by
  obtain ⟨a, xs, k1, k2, k3⟩ := hL h2
  exact ⟨a, xs, k1, .inl (sq_ex ef k2), by rw [hF.u h1]; exact hF.fl _, by rw [hF.all k3]; exact hF.flat _, q _ (by rw [hF.u h1, hF.all k3, hF.inV]; rfl)⟩)
theorem TV.inF [DecidableEq α] (hF : Flat R f) (hL : Lis L R) (hk : EV X b Γ e1 (im R x)) (hl : EV X b Γ e2 (im L as)) (hm : behindInMarks .In e2 = false := by rfl) : TV X b Γ (.Compare e1 [.In] [e2] pos) (decide (x ∈ as)) := TV.of (pt_cmpR op_in_seq pe_w pe_w hm) (TvS.test (EvS.op2i hk hl fun F H v w ef h1 h2 Q q => by
  obtain ⟨a, xs, k1, k2, k3⟩ := hL h2
  exact ⟨a, xs, k1, .inl (sq_ex ef k2), by rw [hF.u h1]; exact hF.fl _, by rw [hF.all k3]; exact hF.flat _, q _ (by rw [hF.u h1, hF.all k3, hF.inV]; rfl)⟩))
theorem EV.ninF [DecidableEq α] (hF : Flat R f) (hL : Lis L R) (hk : EV X b Γ e1 (im R x)) (hl : EV X b Γ e2 (im L as)) (hm : behindInMarks .NotIn e2 = false := by rfl) : EV X b Γ (.Compare e1 [.NotIn] [e2] pos) (im rB (!decide (x ∈ as))) := EV.of (pe_cmpR op_notIn_seq pe_w pe_w hm) (EvS.op2i hk hl fun F H v w ef h1 h2 Q q => by
  obtain ⟨a, xs, k1, k2, k3⟩ := hL h2
  exact ⟨a, xs, k1, .inl (sq_ex ef k2), by rw [hF.u h1]; exact hF.fl _, by rw [hF.all k3]; exact hF.flat _, q _ (by rw [hF.u h1, hF.all k3, hF.inV]; rfl)⟩)
theorem TV.ninF [DecidableEq α] (hF : Flat R f) (hL : Lis L R) (hk : EV X b Γ e1 (im R x)) (hl : EV X b Γ e2 (im L as)) (hm : behindInMarks .NotIn e2 = false := by rfl) : TV X b Γ (.Compare e1 [.NotIn] [e2] pos) (!decide (x ∈ as)) := TV.of (pt_cmpR op_notIn_seq pe_w pe_w hm) (TvS.test (EvS.op2i hk hl fun F H v w ef h1 h2 Q q => by
  obtain ⟨a, xs, k1, k2, k3⟩ := hL h2
  exact ⟨a, xs, k1, .inl (sq_ex ef k2), by rw [hF.u h1]; exact hF.fl _, by rw [hF.all k3]; exact hF.flat _, q _ (by rw [hF.u h1, hF.all k3, hF.inV]; rfl)⟩))
/-- a constant of the module -/
theorem EV.gl {u : Value} {v : V} (hm : X.mg n = some u) (r : RelV v u) (hR : ∀ F, R.r F v x) (hg : Gl X n := by rfl) (hd : (n == ("__debug__" : Str)) = false := by decide) : EV X b Γ (.Name n np) (im R x) :=
  EV.of (pe_glob hg hm r hd) (EvS.mki fun σ F H l g d Q q => q _ F H (Gw.refl d.e) (hR F))
/-- text[i] -/
theorem EV.chr {c : Nat} (h : EV X b Γ e1 (im rS z)) (hi : EV X b Γ e2 (im rI i)) (h0 : 0 ≤ i) (h63 : i < 2 ^ 63) (hc : (cs z)[i.toNat]? = some c) (hs : PlainIxT e2 := by exact (fun _ _ => rfl)) : EV X b Γ (.Subscript e1 e2 pos) (im rS (sg c)) := EV.of (pe_item_str pe_w pe_w hs) (EvS.op2i h hi fun F H v w _ h1 h2 Q q => by
  have hl : i.toNat < (cs z).length := (List.getElem?_eq_some_iff.mp hc).1
  rw [cs_len] at hl
  exact ⟨z, i, c, h1, h2, h0, h63, by omega, by rw [← hc, cs, Array.getElem?_toList], q _ rfl⟩)
/-- a sign in a text -/
theorem EV.inSg {c : Nat} (h : EV X b Γ e1 (im rS (sg c))) (hz : EV X b Γ e2 (im rS z)) (hm : behindInMarks .In e2 = false := by rfl) : EV X b Γ (.Compare e1 [.In] [e2] pos) (im rB (decide (c ∈ cs z))) := EV.of (pe_cmpR op_in_sign pe_w pe_w hm) (EvS.op2i h hz fun F H v w _ h1 h2 Q q => ⟨c, z, h1, h2, q _ rfl⟩)
theorem EV.eqS (ha : EV X b Γ e1 (im rS z1)) (hb : EV X b Γ e2 (im rS z2)) : EV X b Γ (.Compare e1 [.Eq] [e2] pos) (im rB (decide (z1 = z2))) := (EV.eqv ha hb (v := .str z1) (w := .str z2) (fun _ _ h => h) (fun _ _ h => h) rfl).cast (by simp)
theorem TV.eqS (ha : EV X b Γ e1 (im rS z1)) (hb : EV X b Γ e2 (im rS z2)) : TV X b Γ (.Compare e1 [.Eq] [e2] pos) (decide (z1 = z2)) := (TV.eqv ha hb (v := .str z1) (w := .str z2) (fun _ _ h => h) (fun _ _ h => h) rfl).cast (by simp)
theorem TV.neS (ha : EV X b Γ e1 (im rS z1)) (hb : EV X b Γ e2 (im rS z2)) : TV X b Γ (.Compare e1 [.NotEq] [e2] pos) (!decide (z1 = z2)) := (TV.nev ha hb (v := .str z1) (w := .str z2) (fun _ _ h => h) (fun _ _ h => h) rfl).cast (by simp)
/-- order of texts -/
def leS (x y : Str) : Bool := !decide (cs y < cs x)
theorem leS_sg (a c : Nat) : leS (sg a) (sg c) = decide (a ≤ c) := by
  unfold leS
  show (!decide (([c] : List Nat) < [a])) = _
  by_cases h : a ≤ c
  · rw [decide_eq_true h, decide_eq_false]
    · rfl
    · intro q
      cases q with
      | rel q => omega
      | cons q => cases q
  · rw [decide_eq_false h, decide_eq_true]
    · rfl
    · exact .rel (by omega)
def rLeS : R2 := fun x y H Q => ∃ i j, x = .str i ∧ y = .str j ∧ Q (.bl (!decide (j.cps.toList < i.cps.toList))) H
theorem TV.leLeS (ha : EV X b Γ e1 (im rS z1)) (hb : EV X b Γ e2 (im rS z2)) (hc : EV X b Γ e3 (im rS z3)) (hm : lastMarks [.LtE, .LtE] [e2, e3] = false := by rfl) : TV X b Γ (.Compare e1 [.LtE, .LtE] [e2, e3] pos) (leS z1 z2 && leS z2 z3) :=
  TV.of (pt_chain op_le_str op_le_str pe_w pe_w pe_w (hm := hm)) fun σ F H l g d Q q => EvS.chain (r := rLeS) (r' := rLeS) ha hb (fun _ => hc) (fun F H v w h1 h2 Q q => ⟨z1, z2, h1, h2, q⟩) (fun F H v w h1 h2 Q q => ⟨z2, z3, h1, h2, q⟩) σ F H l g d _ fun F' H' w => ⟨_, rfl, q F' H' w⟩
/-- for c in text -/
theorem IV.chars (h : EV X b Γ e (im rS z)) : IV X b Γ tg e ((cs z).map sg).length (IL rS ((cs z).map sg)) := ⟨_, pi_str pe_w, fun σ F H l g d Q q => h σ F H l g d _ fun v F1 H1 l1 w ⟨_, hv⟩ _ => by
  refine ⟨z, hv, q _ F1 H1 w ?_⟩
  have hl : ((cs z).map sg).length = z.cps.size := by rw [List.length_map]; exact Array.length_toList
  rw [hl]
  refine ⟨_, _, walk_str, fun F' H' e1 e2 => trivial, fun i F' H' v H'' hi e1 e2 y => ?_⟩
  obtain ⟨rfl, c, hy, rfl⟩ := y
  exact ⟨F', mk rS (sg c), Gw.refl e2, ⟨sg c, by rw [List.getElem?_map, cs, Array.getElem?_toList, hy]; rfl, rfl⟩, rfl⟩⟩
theorem EV.all {bs : List Bool} (ha : AV X b Γ [e] [mk (rL rB) bs]) (hm : X.mg "all" = none) (hg : Gl X "all" := by rfl) (hc : X.calm = true := by rfl) (he : starEach [e] X.env = (false, eval e X.env) :: starEach [] X.env := by rfl) : EV X b Γ (.Call (.Name "all" p) [e] [] pos) (im rB (bs.all id)) :=
  EV.c1 ha (fun h => pe_callB (cr_all hc) hg hm (by decide +kernel) h (he := he) (hpl := rfl)) fun F H v ef ⟨a, xs, h1, h2, h3⟩ Q q => ⟨a, bs, by rw [h1], by rw [← all2_bls h3]; exact SqL.of (ef a _ h2), q _ rfl⟩
/-- while, by a count that falls -/
theorem HT.while (Inv : Nat → Ctx → Prop) (m : Nat) (h0 : Inv m Γ)
    (hs : ∀ b' k Γ', b'.B = b.B → Inv k Γ' → ∃ c, TV X b' Γ' e c ∧ (c = true → HT X b' { C with nx := fun Γ => ∃ k', k' < k ∧ Inv k' Γ, ct := fun Γ => ∃ k', k' < k ∧ Inv k' Γ, bk := fun Γ => HT X b C Γ rest } Γ' bd) ∧ (c = false → HT X b C Γ' rest))
    (hp : PassesOwn (model X.prog X.w) X.A X.env X.xe) : HT X b C Γ (.While e bd [] pos :: rest) := by
  refine HT.step (ps_while hp pt_w pss_w) fun σ F H ⟨l, g, d⟩ => ?_
  refine ⟨fun k σ' H' => At ⟨F, b.B⟩ (Inv k) σ' H', ⟨m, Γ, F, ⟨l, g, d.self⟩, h0⟩, fun k σ1 H1 ⟨Γ1, F1, ⟨l1, g1, d1⟩, iv⟩ => ?_⟩
  have u1 := d.up
  have u2 : Up ⟨F, b.B⟩ ⟨F1, b.B⟩ := d1.up
  obtain ⟨c, ht, hy, hn⟩ := hs ⟨F1, b.B⟩ k Γ1 rfl iv
  refine ht σ1 F1 H1 l1 g1 d1.self _ fun F2 H2 w => ?_
  have g2 := g1.grow w
  have d2 := d1.self.grow g1.t w
  cases c with
  | false => exact hn rfl σ1 F2 H2 ⟨l1, g2, u1.gd (u2.gd d2)⟩
  | true =>
    refine ⟨fun σ' H' => At ⟨F, b.B⟩ (fun Γ => ∃ k', k' < k ∧ Inv k' Γ) σ' H', fun σ' H' ⟨Γ', F', g', k', hk, iv'⟩ => ⟨k', hk, Γ', F', g', iv'⟩, ?_⟩
    refine wS.mono (hy rfl σ1 F2 H2 ⟨l1, g2, d2⟩) (fun _ _ h => u2.at h) (fun _ _ h => u1.rt (u2.rt h)) (fun σ3 H3 h => ?_) (fun _ _ h => u2.at h)
    obtain ⟨Γ3, F3, g3, h3⟩ := h
    exact h3 σ3 F3 H3 (u1.sg (u2.sg g3))
end
/-! ### == of data whose texts are texts -/
structure Dw {α : Type} (K : PySem.W.Frag) (R : Rl α) (D : α → PyData) (n : Nat) : Prop where
  rep : ∀ {H v x}, R.r H v x → Dp K H v (D x)
  dep : ∀ x, (D x).depth ≤ n
  eqv : ∀ x y, PyData.eqv (D x) (D y) = true ↔ x = y
def oD : Option Str → PyData
  | none => .none
  | some s => .str s
section
variable {K : PySem.W.Frag} {α β : Type} {R : Rl α} {S : Rl β} {D : α → PyData} {n : Nat}
theorem Dw.str : Dw K rS PyData.str 0 := ⟨fun h => by rw [show _ = V.str _ from h]; exact .str _, fun _ => Nat.le_of_eq rfl, fun x y => by simp [PyData.eqv]⟩
theorem Dw.optS : Dw K (rO rS) oD 0 := ⟨fun {H v x} h => by
  cases x with
  | none => rw [show v = V.non from h]; exact .non
  | some s => rw [show v = V.str s from h]; exact .str _, fun x => by cases x <;> exact Nat.le_of_eq rfl, fun x y => by cases x <;> cases y <;> simp [PyData.eqv, oD]⟩
theorem Dw.dpAll (d : Dw K R D n) {H : Hp} {vs : List V} {as : List α} (t : All2 (R.r H) vs as) : DpAll K H vs (as.map D) := by
  induction t with
  | nil => exact .nil
  | cons h _ ih => exact .cons (d.rep h) ih
theorem Dw.depAll (d : Dw K R D n) (as : List α) : PyData.depthAll (as.map D) ≤ n := by
  induction as with
  | nil => exact Nat.zero_le _
  | cons a as ih =>
    show max (D a).depth (PyData.depthAll (as.map D)) ≤ n
    exact Nat.max_le.mpr ⟨d.dep a, ih⟩
theorem Dw.eqvAll (d : Dw K R D n) (as : List α) : ∀ bs : List α, PyData.eqvAll (as.map D) (bs.map D) = true ↔ as = bs := by
  induction as with
  | nil =>
    intro bs
    cases bs with
    | nil => exact ⟨fun _ => rfl, fun _ => rfl⟩
    | cons _ _ => exact ⟨fun h => absurd (show false = true from h) (by decide), fun h => nomatch h⟩
  | cons a as ih =>
    intro bs
    cases bs with
    | nil => exact ⟨fun h => absurd (show false = true from h) (by decide), fun h => nomatch h⟩
    | cons b bs =>
      show (PyData.eqv (D a) (D b) && PyData.eqvAll (as.map D) (bs.map D)) = true ↔ _
      rw [Bool.and_eq_true, d.eqv, ih bs]
      exact ⟨fun ⟨h1, h2⟩ => by rw [h1, h2], fun h => by cases h; exact ⟨rfl, rfl⟩⟩
theorem Dw.lst {L : Rl (List α)} (hL : Lis L R) (d : Dw K R D n) : Dw K L (fun as => .list (as.map D)) (n + 1) := ⟨fun h => by
  obtain ⟨p, xs, rfl, h2, h3⟩ := hL h
  exact .lst (sq_ex (Ex.refl _) h2) (d.dpAll h3), fun as => by
    have := d.depAll as
    show PyData.depthAll (as.map D) + 1 ≤ n + 1
    omega, fun as bs => by
    rw [← d.eqvAll as bs]
    exact Iff.rfl⟩
theorem layAll (D : α → PyData) (as : List α) (h : ∀ a ∈ as, (D a).canLay0 = true) : (PyData.list (as.map D)).canLay0 = true := by
  show PyData.canLayAll0 (as.map D) = true
  induction as with
  | nil => rfl
  | cons a as ih =>
    show ((D a).canLay0 && PyData.canLayAll0 (as.map D)) = true
    rw [h a List.mem_cons_self, ih fun a ha => h a (List.mem_cons_of_mem _ ha)]; rfl
end
section
variable {X : Cx} {b : Bs} {Γ : Ctx} {α β γ : Type} {R : Rl α} {S : Rl β} {x y : α} {D : α → PyData} {n : Nat} {e1 e2 : Expr} {pos : Pos}
theorem Dw.shaped (d : Dw X.K R D n) (hn : n ≤ 64) (hx : (D x).canLay0 = true) : SeqAt.shaped (D x) = true := by
  unfold SeqAt.shaped
  rw [hx, decide_eq_true (Nat.le_trans (d.dep x) hn)]; rfl
theorem TV.eqW [DecidableEq α] (d : Dw X.K R D n) (hn : n ≤ 64) (hu : X.A.units + 64 < cLine) (hx : (D x).canLay0 = true) (hy : (D y).canLay0 = true) (ha : EV X b Γ e1 (im R x)) (hb : EV X b Γ e2 (im R y)) : TV X b Γ (.Compare e1 [.Eq] [e2] pos) (decide (x = y)) := TV.of (pt_cmpR (op_eqD hu) pe_w pe_w (nomark _)) (TvS.test (EvS.op2i ha hb fun F H v w ef h1 h2 Q q =>
  ⟨_, _, d.rep (R.m ef h1), d.rep (R.m ef h2), d.shaped hn hx, d.shaped hn hy, q _ (by
    show V.bl _ = V.bl _
    congr 1
    rw [Bool.eq_iff_iff, d.eqv]; simp)⟩))
theorem EV.eqW [DecidableEq α] (d : Dw X.K R D n) (hn : n ≤ 64) (hu : X.A.units + 64 < cLine) (hx : (D x).canLay0 = true) (hy : (D y).canLay0 = true) (ha : EV X b Γ e1 (im R x)) (hb : EV X b Γ e2 (im R y)) : EV X b Γ (.Compare e1 [.Eq] [e2] pos) (im rB (decide (x = y))) := EV.of (pe_cmpR (op_eqD hu) pe_w pe_w (nomark _)) (EvS.op2i ha hb fun F H v w ef h1 h2 Q q =>
  ⟨_, _, d.rep (R.m ef h1), d.rep (R.m ef h2), d.shaped hn hx, d.shaped hn hy, q _ (by
    show V.bl _ = V.bl _
    congr 1
    rw [Bool.eq_iff_iff, d.eqv]; simp)⟩)
theorem TV.neW [DecidableEq α] (d : Dw X.K R D n) (hn : n ≤ 64) (hu : X.A.units + 64 < cLine) (hx : (D x).canLay0 = true) (hy : (D y).canLay0 = true) (ha : EV X b Γ e1 (im R x)) (hb : EV X b Γ e2 (im R y)) : TV X b Γ (.Compare e1 [.NotEq] [e2] pos) (!decide (x = y)) := TV.of (pt_cmpR (op_neD hu) pe_w pe_w (nomark _)) (TvS.test (EvS.op2i ha hb fun F H v w ef h1 h2 Q q =>
  ⟨_, _, d.rep (R.m ef h1), d.rep (R.m ef h2), d.shaped hn hx, d.shaped hn hy, q _ (by
    show V.bl _ = V.bl _
    congr 2
    rw [Bool.eq_iff_iff, d.eqv]; simp)⟩))
end
end Lg

namespace Lg
open PySem L2 Evl PyProof.Rows
section
variable {X : Cx} {b : Bs} {Γ : Ctx} {α β γ : Type} {R : Rl α} {S : Rl β} {D : Rl (List (Key × β))} {x : α} {y : β} {e e1 e2 : Expr} {pos : Pos} {kvs : List (Key × β)} {o : Option Str}
theorem EV.dict0 : EV X b Γ (.Dict [] [] pos) (owD S []) := EV.of pe_dnewK fun σ F H l g d Q q p hp =>
  q _ F _ [p] (Gw.own d.e hp) ⟨p, [], rfl, rfl, upd_same, .nil⟩ fun c hc => by rw [List.mem_singleton.mp hc]; exact ⟨hp, ex_none d.e hp⟩
/-- {k: v} -/
theorem EV.dict1 {k : Key} {kx vx : Expr} (hk : EV X b Γ kx (im R x)) (hx : ∀ F v, R.r F v x → v = kV k) (hv : EV X b Γ vx (im S y))
    (hp : ∀ {t1 t2 : TE}, PE X kx t1 → PE X vx t2 → PPs X pos [some kx] [vx] [(t1, t2)]) : EV X b Γ (.Dict [some kx] [vx] pos) (owD S [(k, y)]) := by
  refine EV.of (pe_disp (hp pe_w pe_w) rfl rfl (by simp) (by show 1 ≤ 15; decide)) fun σ F H l g d Q q p hp => ?_
  have w0 := Gw.own (o := .dK []) d.e hp
  have fp := ex_none d.e hp
  refine hk σ F _ l (g.grow w0) (d.grow g.t w0) _ fun v1 F1 H1 l1 w1 p1 _ => hv σ F1 H1 l ((g.grow w0).grow w1) ((d.grow g.t w0).grow (g.grow w0).t w1) _ fun v2 F2 H2 l2 w2 p2 _ => ?_
  have w12 := w1.trans w2
  have e2 : H2 p = some (.dK []) := w12.h p _ upd_same
  have f2 : F2 p = none := w12.k p fp (by rw [upd_same]; exact fun z => nomatch z)
  refine ⟨e2, [(k, v2)], by rw [List.map_singleton, hx F1 v1 p1.2], by show 1 ≤ 15; decide, ?_⟩
  refine q _ F2 _ [p] ⟨w12.f, fun a u ha => ?_, fun a u ha => ?_, fun a h1 h2 => ?_⟩ ⟨p, [(k, v2)], rfl, rfl, upd_same, .cons p2.2 .nil⟩ fun c hc => by rw [List.mem_singleton.mp hc]; exact ⟨hp, f2⟩
  · have z := ne_of_none ha hp
    rw [upd_ne z]
    exact w12.h a u (by rw [upd_ne z]; exact ha)
  · rw [upd_ne (ne_of_none ha f2)]
    exact w12.e a u ha
  · have z : a ≠ p := fun z => h2 (by rw [z]; exact hp)
    exact w12.k a h1 (by rw [upd_ne z]; exact h2)
/-- k in d, k a text or None -/
def ink (kvs : List (Key × β)) : Option Str → Bool
  | none => false
  | some s => (kget kvs (Sum.inr s)).isSome
theorem EV.inN (hD : Dic D S) (hu : X.A.units + 1 < cLine) (hk : EV X b Γ e1 (im (rO rS) o)) (hd : EV X b Γ e2 (im D kvs)) (hm : behindInMarks .In e2 = false := by rfl) : EV X b Γ (.Compare e1 [.In] [e2] pos) (im rB (ink kvs o)) := EV.of (pe_cmp (pc_dinN hu pe_w pe_w) hm) (EvS.mki fun σ F H l g d Q q =>
  hk σ F H l g d _ fun v F1 H1 l1 w1 p1 _ => hd σ F1 H1 l (g.grow w1) (d.grow g.t w1) _ fun u F2 H2 l2 w2 ⟨_, h⟩ _ => by
    obtain ⟨a, ws, h1, h2, h3⟩ := hD h
    cases o with
    | none => exact .inr ⟨a, ws, h1, p1.2, rd_ex w2.e h2, q _ F2 H2 (w1.trans w2) rfl⟩
    | some s =>
      have t := h3.get (Sum.inr s)
      refine .inl ⟨a, valV ws (Sum.inr s), h1, .inl ⟨ws, Sum.inr s, rd_ex w2.e h2, (show v = V.str s from p1.2), rfl⟩, q _ F2 H2 (w1.trans w2) ?_⟩
      show V.bl _ = V.bl _
      rw [show ink kvs (some s) = (kget kvs (Sum.inr s)).isSome from rfl]
      cases z : kget kvs (Sum.inr s) with
      | none => rw [z] at t; rw [t]; rfl
      | some y => rw [z] at t; obtain ⟨u, t, _⟩ := t; rw [t]; rfl)
theorem TV.inN (hD : Dic D S) (hu : X.A.units + 1 < cLine) (hk : EV X b Γ e1 (im (rO rS) o)) (hd : EV X b Γ e2 (im D kvs)) (hm : behindInMarks .In e2 = false := by rfl) : TV X b Γ (.Compare e1 [.In] [e2] pos) (ink kvs o) := TV.of (pt_cmp (pc_dinN hu pe_w pe_w) hm) (TvS.testB (EvS.mki fun σ F H l g d Q q =>
  hk σ F H l g d _ fun v F1 H1 l1 w1 p1 _ => hd σ F1 H1 l (g.grow w1) (d.grow g.t w1) _ fun u F2 H2 l2 w2 ⟨_, h⟩ _ => by
    obtain ⟨a, ws, h1, h2, h3⟩ := hD h
    cases o with
    | none => exact .inr ⟨a, ws, h1, p1.2, rd_ex w2.e h2, q _ F2 H2 (w1.trans w2) rfl⟩
    | some s =>
      have t := h3.get (Sum.inr s)
      refine .inl ⟨a, valV ws (Sum.inr s), h1, .inl ⟨ws, Sum.inr s, rd_ex w2.e h2, (show v = V.str s from p1.2), rfl⟩, q _ F2 H2 (w1.trans w2) ?_⟩
      show V.bl _ = V.bl _
      rw [show ink kvs (some s) = (kget kvs (Sum.inr s)).isSome from rfl]
      cases z : kget kvs (Sum.inr s) with
      | none => rw [z] at t; rw [t]; rfl
      | some y => rw [z] at t; obtain ⟨u, t, _⟩ := t; rw [t]; rfl))
theorem TV.inK (hD : Dic D S) {k : Key} (hu : X.A.units + 1 < cLine) (hk : EV X b Γ e1 (im R x)) (hx : ∀ F v, R.r F v x → v = kV k) (hd : EV X b Γ e2 (im D kvs)) (hm : behindInMarks .In e2 = false := by rfl) : TV X b Γ (.Compare e1 [.In] [e2] pos) (kget kvs k).isSome := TV.of (pt_cmp (pc_din hu pe_w pe_w) hm) (TvS.testB (EvS.mki fun σ F H l g d Q q =>
  hk σ F H l g d _ fun v F1 H1 l1 w1 p1 _ => hd σ F1 H1 l (g.grow w1) (d.grow g.t w1) _ fun u F2 H2 l2 w2 ⟨_, h⟩ _ => by
    obtain ⟨a, ws, h1, h2, h3⟩ := hD h
    refine ⟨a, valV ws k, h1, .inl ⟨ws, k, rd_ex w2.e h2, hx F1 v p1.2, rfl⟩, q _ F2 H2 (w1.trans w2) ?_⟩
    have t := h3.get k
    show V.bl _ = V.bl _
    cases z : kget kvs k with
    | none => rw [z] at t; rw [t]; rfl
    | some y => rw [z] at t; obtain ⟨u, t, _⟩ := t; rw [t]; rfl))
theorem TV.ninK (hD : Dic D S) {k : Key} (hu : X.A.units + 1 < cLine) (hk : EV X b Γ e1 (im R x)) (hx : ∀ F v, R.r F v x → v = kV k) (hd : EV X b Γ e2 (im D kvs)) (hm : behindInMarks .NotIn e2 = false := by rfl) : TV X b Γ (.Compare e1 [.NotIn] [e2] pos) (!(kget kvs k).isSome) := TV.of (pt_cmp (pc_dnotin hu pe_w pe_w) hm) (TvS.testB (EvS.mki fun σ F H l g d Q q =>
  hk σ F H l g d _ fun v F1 H1 l1 w1 p1 _ => hd σ F1 H1 l (g.grow w1) (d.grow g.t w1) _ fun u F2 H2 l2 w2 ⟨_, h⟩ _ => by
    obtain ⟨a, ws, h1, h2, h3⟩ := hD h
    refine ⟨a, valV ws k, h1, .inl ⟨ws, k, rd_ex w2.e h2, hx F1 v p1.2, rfl⟩, q _ F2 H2 (w1.trans w2) ?_⟩
    have t := h3.get k
    show V.bl _ = V.bl _
    cases z : kget kvs k with
    | none => rw [z] at t; rw [t]; rfl
    | some y => rw [z] at t; obtain ⟨u, t, _⟩ := t; rw [t]; rfl))
end
/-- rows with texts for keys -/
def kvS {β : Type} (l : List (Str × β)) : List (Key × β) := l.map fun p => ((Sum.inr p.1 : Key), p.2)
theorem kvS_ks {β : Type} (l : List (Str × β)) : ks (kvS l) (l.map (·.1)) := by
  unfold ks kvS
  rw [List.map_map, List.map_map]; rfl
theorem kget_kvS {β : Type} (l : List (Str × β)) (s : Str) : kget (kvS l) (Sum.inr s) = (l.find? fun p => decide (p.1 = s)).map (·.2) := by
  unfold kget kvS
  induction l with
  | nil => rfl
  | cons p l ih =>
    rw [List.map_cons, List.find?_cons, List.find?_cons]
    by_cases h : p.1 = s
    · rw [decide_eq_true h, decide_eq_true (show (Sum.inr p.1 : Key) = Sum.inr s by rw [h])]; rfl
    · rw [decide_eq_false h, decide_eq_false (show ¬ (Sum.inr p.1 : Key) = Sum.inr s from fun z => h (Sum.inr.inj z))]; exact ih
theorem kget_some {β : Type} (l : List (Str × β)) (s : Str) : (kget (kvS l) (Sum.inr s)).isSome = decide (s ∈ l.map (·.1)) := by
  rw [kget_kvS, Option.isSome_map]
  induction l with
  | nil => rfl
  | cons p l ih =>
    rw [List.find?_cons, List.map_cons]
    by_cases h : p.1 = s
    · rw [decide_eq_true h]; simp [h]
    · have h' : ¬ s = p.1 := fun z => h z.symm
      rw [decide_eq_false h]
      show (l.find? _).isSome = _
      rw [ih]; simp [h']
theorem kput_new {β : Type} (l : List (Str × β)) (s : Str) (v : β) (h : s ∉ l.map (·.1)) : kput (kvS l) (Sum.inr s) v = kvS (l ++ [(s, v)]) := by
  unfold kput
  rw [if_neg]
  · unfold kvS; rw [List.map_append]; rfl
  · intro q
    obtain ⟨kv, h1, h2⟩ := List.any_eq_true.mp q
    obtain ⟨p, hp, rfl⟩ := List.mem_map.mp h1
    have z : (Sum.inr p.1 : Key) = Sum.inr s := of_decide_eq_true h2
    exact h (List.mem_map.mpr ⟨p, hp, Sum.inr.inj z⟩)
end Lg

namespace Lg
open PySem L2 Evl PyProof.Rows
/-! ### own errors that keep a field; their base is an own class -/
structure BasC (K : PySem.W.Frag) (mg : Str → Option Value) (x : Str) (C : Addr) : Prop where
  g : mg x = some (.ref C)
  rd : ClX.CRead K C (.type "type")
  at_ : PySem.W.findCls K (.ref C) (.type "type") "__init__" = some (.val (.builtin "ValueError.__init__"))
section
variable {X : Cx} {e : Expr} {es : List Expr} {ta : TA} {p1 p2 pos : Pos} {nx : Str} {CB : Addr}
/-- Base.__init__(self, ..) -/
theorem pe_basinit {pl : Sem Bool} (T : BasC X.K X.mg nx CB) (ha : PA X (e :: es) ta) (hg : Gl X nx := by rfl) (hdb : (nx == ("__debug__" : Str)) = false := by decide)
    (hev : eval (.Call (.Attribute (.Name nx p1) "__init__" p2) (e :: es) [] pos) X.env = (do
      let o ← eval (.Name nx p1) X.env
      standAt p2.atName
      let (m, first) ← holding [o] (getMethod o "__init__" pl)
      callWith pos m first (backTo pos (starEach (e :: es) X.env)) (backToKw pos (keywordEach [] X.env))) := by rfl)
    (hst : starEach (e :: es) X.env = (false, eval e X.env) :: starEach es X.env := by rfl) (hno : (backTo pos (starEach es X.env)).any (·.1) = false := by rfl) :
    PE X (.Call (.Attribute (.Name nx p1) "__init__" p2) (e :: es) [] pos) (tVeI X.K ta) := by
  constructor
  intro pins s σ H Q I q0
  refine PySem.W.methodCall_KW (ld_glob I hg T.g ?_ hdb) hev
  refine PySem.W.method_cls I.kIn T.rd.ga (PySem.W.cls_value I.kIn T.rd.rd T.at_ rfl ?_)
  show wpAny _ _ (callWith pos (Value.builtin "ValueError.__init__") [] (backTo pos (starEach (e :: es) X.env)) []) _ _ _
  refine PyProof.Rows.callWith_method1 (thn (ha.run pos pins _ σ H _ (I.tok _) q0) fun us s1 ⟨vs, H1, I1, r1, a, C, ws, hvs, hw, TC, he1, q1⟩ => ?_) hst hno
  rw [hvs] at r1
  cases r1 with
  | @cons _ u0 _ ur r0 rr =>
    have hu0 : u0 = Value.ref a := r0
    rw [hu0]
    exact oinit_ok TC I1 he1 (by rw [← Paired.length rr, sizeLine_eq]; omega) fun s2 J => ⟨.non, H1, J, rfl, q1⟩
end
/-- C(e) of an own class with an __init__, the context None -/
theorem pmk_oexN {X : Cx} {CX : CXT} {x : Str} {e : Expr} {ta : TA} {p p' : Pos} {C fI : Addr} {k : Nat} {fd : FuncData} {ps : List Str} {sp : Sp} (T : OexC X.K C) (iC : PySem.W.findIn X.K (.ref C) "__init__" = some (some (.ref fI))) (tI : PySem.W.typeIn X.K (.ref fI) = some (.type "function"))
    (F1 : FnOk X.prog X.w X.K X.mg X.base CX k fI fd ps sp) (hr : Room (k + 1) X.A) (hb : Binds X.K fd ps []) (hx : Passes CX X (fun _ _ _ => False)) (hg : Gl X x) (hm : X.mg x = some (.ref C)) (ha : PA X [e] ta) (hd : (x == ("__debug__" : Str)) = false) (he : starEach [e] X.env = (false, eval e X.env) :: starEach [] X.env) :
    L2N.PMk X (.Call (.Name x p) [e] [] p') (tMkO C sp [] ta) := fun pins s σ H Q I h => by
  obtain ⟨nm, q, N, bs, bm, sn, sub, ab, col, dd, k0, k1, k2, k3, k5, hC, hbm⟩ := T.cls
  refine wpAny_Call_Name_kw (ld_glob I hg hm (PySem.W.callWith_K (h₀ := X.base) I.ok.mod.kin T.kC (thn (ha.run p' pins s σ H _ I h) fun us s1 ⟨vs, H1, I1, r1, hz, q1⟩ => ⟨I1.kIn, ?_⟩) he (by rfl)) hd)
  obtain ⟨hp, g, dr, tk, os⟩ := s1
  generalize ea : hp.objs.size + 1 = a
  have hq := q1 a (I1.hok.fresh (by rw [← ea]; exact Nat.le_succ _))
  rw [List.append_nil] at hq
  generalize eh : (hp.push (PySem.W.kdv_tup us)).push (PySem.HandSPX.excO C hp.objs.size) = h2
  have kk : ∀ b o, hp.get? b = some o → h2.get? b = some o := fun b o e => by
    rw [← eh]; exact Heap.get?_push_of_some _ (Heap.get?_push_of_some _ e)
  have hget : h2.get? a = some (PySem.HandSPX.excO C hp.objs.size) := by
    rw [← eh, ← ea]; heap_get
  have hsz : hp.objs.size ≤ a := by rw [← ea]; exact Nat.le_succ _
  have I2 : Inv X pins σ (upd H1 a (exo a C none)) ⟨h2, g, dr, tk, os⟩ := I1.laid (t' := tk) kk hsz (exo_ok hget)
  have r2 : Vals (V.ref a :: vs) (Value.ref a :: us) := .cons rfl r1
  have hl : (Value.ref a :: us ++ []).length = ps.length := by rw [List.append_nil, ← F1.len _ _ _ _ hq]; exact r2.length.symm
  have b2 := hb _ (Value.ref a :: us) I2.kIn hl
  rw [List.append_nil] at b2
  have run := F1.run _ X.stack _ _ ⟨Value.ref a :: us, []⟩ _ _ _ (fun _ _ _ => False) (hr.make C us []) (I2.env0.make C us []) b2 r2 hq
  refine wpAny_call (PySem.HandSPX.call_own F.excBase_ValueError (fun Y => PySem.HandSPX.refsVE_contains Y bm hbm) (I1.kIn _ _ hC) (PySem.W.looks_findIn I1.kIn iC) (fun self => PySem.W.bind_fn I1.kIn self tI) (by show us.length ≤ sizeLine; rw [← Paired.length r1, sizeLine_eq]; omega) (codeAny_mono (by rw [← eh, ← ea] at run; exact run) fun r s' hq' => ?_))
  rw [eh, ea] at hq'
  cases r with
  | error er => exact hx pins σ _ _ er s' I2 hq'
  | ok fl =>
    cases fl with
    | ret u =>
      obtain ⟨v, H2, os2, bare2, un2, hok2, rv, ev, d, fs, ea2, ed, hd1, q2⟩ := hq'
      rw [ev] at rv
      obtain ⟨h3, g3, d3, t3, os3⟩ := s'
      obtain ⟨t0, G, J, kG, ge, hoe, na⟩ := mk_end0 (d2 := d3) (t2 := t3) I1 hsz kk un2 hok2 os2 bare2 ea2 ed hd1
      rw [ea]
      exact ⟨rv, a, _, _, ⟨G, g3, d3, t3, os3⟩, _, .ref C, some d, rfl, J, kG, ge, hoe, ⟨rfl, rfl, fun vs hv => by cases hv; rfl⟩, rfl, rfl, na, rfl, bare2, raises_own T.exC T.tyC, q2⟩
    | next => exact False.elim hq'
    | brk => exact False.elim hq'
    | cont => exact False.elim hq'
/-- what is known of an own error with one field -/
structure FldC (P : Program) (w : World) (K : PySem.W.Frag) (mg : Str → Option Value) (base : Heap) (k : Nat) (x f : Str) (C : Addr) : Prop where
  T : OexC K C
  g : mg x = some (.ref C)
  ex : ∃ fI fd, PySem.W.findIn K (.ref C) "__init__" = some (some (.ref fI)) ∧ PySem.W.typeIn K (.ref fI) = some (.type "function") ∧ Binds K fd ["self", f] [] ∧
    FnOk P w K mg base (L2N.CX P w) k fI fd ["self", f] (fun vs H Q _ => ∃ (a : Addr) (z : Str), vs = [.ref a, .str z] ∧ z.length ≤ 1000 ∧ H a = some (exo a C none) ∧ ∀ dx, H dx = none → dx ≠ a → Q .non (upd (upd H dx (exd dx [(f, .str z)])) a (exo a C (some dx))))
def XwF (b : Bs) (Γ : Ctx) (W : WX) (C : Addr) (fs : List (Str × V)) : Prop := ∀ σ F H d, Sg b Γ σ F H → H d = none → W (.ref C) (some d) σ (upd H d (.xd fs))
section
variable {X : Cx} {b : Bs} {D : EndC} {Γ : Ctx} {nx f : Str} {C : Addr} {k : Nat} {e : Expr} {z : Str} {W : WX} {p pos pos' : Pos} {rest : List Stmt}
theorem HT.raiseF (T : FldC X.prog X.w X.K X.mg X.base k nx f C) (hr : Room (k + 1) X.A) (tk : L2N.Takes X W) (he : EV X b Γ e (im rS z)) (hz : z.length ≤ 1000) (hW : XwF b Γ W C [(f, .str z)]) (hc : X.calm = true := by rfl) (hg : Gl X nx := by rfl) (hse : starEach [e] X.env = (false, eval e X.env) :: starEach [] X.env := by rfl) (hdb : (nx == ("__debug__" : Str)) = false := by decide) : HT X b D Γ (.Raise (some (.Call (.Name nx p) [e] [] pos')) none pos :: rest) := by
  obtain ⟨fI, fd, h1, h2, hb, F⟩ := T.ex
  refine HT.step (L2N.ps_raise hc tk (pmk_oexN T.T h1 h2 F hr hb (fun _ _ _ _ _ _ _ ⟨_, _, _, _, _, _, _, _, _, _, _, _, x⟩ => x.elim) hg T.g (pa_cons pe_w pa_nil hse) hdb hse)) fun σ F H ⟨l, g, d⟩ => ?_
  refine he σ F H l g d _ fun v F' H' l' w q _ => ⟨by show 1 ≤ 1000; decide, fun a ha => ⟨a, z, by rw [show v = V.str z from q.2]; rfl, hz, upd_same, fun dx hd hne => ⟨rfl, dx, [(f, .str z)], upd_same, ?_, ?_, ?_⟩⟩⟩
  · rw [upd_ne hne, upd_same]
  · rw [upd_ne hne] at hd; exact hd
  · rw [upd_ne hne] at hd
    have e : upd (del (upd (upd (upd H' a (exo a C none)) dx (exd dx [(f, .str z)])) a (exo a C (some dx))) a) dx (.xd [(f, .str z)]) = upd H' dx (.xd [(f, .str z)]) := by
      funext c
      by_cases h1 : c = dx
      · rw [h1, upd_same, upd_same]
      · rw [upd_ne h1, upd_ne h1]
        by_cases h2 : c = a
        · rw [h2, del_same, ha]
        · rw [del_ne h2, upd_ne h2, upd_ne h1, upd_ne h2]
    rw [e]
    exact hW σ F' H' dx ⟨l, g.grow w, d.grow g.t w⟩ hd
end
end Lg

namespace Lg
open PySem L2 Evl PyProof.Rows
/-! ### promises with errors that keep a field -/
inductive Ry where
  | ok (s : Sl)
  | err (C : Addr)
  | errF (C : Addr) (fs : List (Str × V))
def spY {ι : Type} (A : ι → List Im) (pre : ι → Prop) (res : ι → Ry) : Sp := fun vs H Q E => ∃ (i : ι) (F : Hp), Ex F H ∧ Ims F vs (A i) ∧ pre i ∧
  (∀ s, res i = .ok s → ∀ v F' H' l', Gw F H F' H' → s.P F' H' v l' → (∀ a ∈ l', H a = none ∧ F' a = none) → Q v H') ∧ (∀ C, res i = .err C → ∀ H', Ex H H' → E (.ref C) none H') ∧
  (∀ C fs, res i = .errF C fs → ∀ H' d, Ex H H' → H' d = none → E (.ref C) (some d) (upd H' d (.xd fs)))
section
variable {P : Program} {w : World} {K : PySem.W.Frag} {mg : Str → Option Value} {base : Heap} {x qual : Str} {st : Stmt} {f : Addr} {fd : FuncData} {N ps : List Str} {k : Nat} {ι : Type} {A : ι → List Im} {pre : ι → Prop} {res : ι → Ry}
theorem fn_okY (F : Fun K x qual st f fd) (S : FnScope N ps (defScope st)) (hA : ∀ i, (A i).length = ps.length)
    (body : ∀ (i : ι) (B : Bs) (cdv : Value) (A' : Around) (outer : List Env) (s : Shared) (H : Hp) (E : XK), pre i → Room k (A'.deeper (envOfC qual (defScope st) s.heap.objs.size f cdv)) → (∀ C, res i = .err C → ∀ H', Ex B.B H' → E (.ref C) none H') →
      (∀ C fs, res i = .errF C fs → ∀ H' d, Ex B.B H' → H' d = none → E (.ref C) (some d) (upd H' d (.xd fs))) →
      HT (cxOf (L2N.CX P w) P w K mg base N qual (defScope st) f cdv A' outer s H E) B ⟨fun _ => res i = .ok (im rU ()), fun s => res i = .ok s, fun _ => False, fun _ => False⟩ (c0 (A i) (N.length - ps.length)) (defBody st)) :
    FnOk P w K mg base (L2N.CX P w) (k + 1) f fd ps (spY A pre res) := by
  refine okN F S (fun vs H Q E ⟨i, F, _, hv, _⟩ => by rw [hv.len, hA i]) fun cdv A' outer s H vs Q E hr ⟨i, F0, hF, hv, hp, h1, h2, h3⟩ => ⟨_, pss_w, ?_⟩
  have hn : vs.length = ps.length := by rw [hv.len, hA i]
  have g0 : Sg ⟨F0, H⟩ (c0 (A i) (N.length - ps.length)) (L2.start N vs) F0 H := ⟨[], by
    unfold L2.start
    rw [hn]
    exact SgL.args _ hv, Ex.refl _, Ex.refl _, hF, fun _ h _ => h, List.nodup_nil, fun _ h => (nomatch h), fun _ h => nomatch h⟩
  refine wS.mono (body i ⟨F0, H⟩ cdv A' outer s H E hp hr h2 h3 _ F0 H g0) (fun σ' H' h => ?_) (fun v H' h => ?_) (fun _ _ h => ?_) (fun _ _ h => ?_)
  · obtain ⟨Γ, F', ⟨l, _, d⟩, h⟩ := h
    exact h1 _ h .non F' H' [] ⟨d.ef, d.eb, d.e, fun a q1 q2 => d.k a q1 q2⟩ ⟨rfl, rfl⟩ fun _ h => nomatch h
  · obtain ⟨s', F', l, p, d, h⟩ := h
    exact h1 _ h v F' H' l ⟨d.ef, d.eb, d.e, fun a q1 q2 => d.k a q1 q2⟩ p fun a ha => ⟨d.ob a ha, d.of a ha⟩
  · obtain ⟨_, _, _, h⟩ := h; exact h.elim
  · obtain ⟨_, _, _, h⟩ := h; exact h.elim
end
section
variable {X : Cx} {b : Bs} {Γ : Ctx} {k : Nat} {x m : Str} {ps : List Str} {ι β : Type} {A : ι → List Im} {pre : ι → Prop} {res : ι → Ry} {i : ι} {s : Sl} {e o : Expr} {es : List Expr} {p pos apos : Pos} {W : WX} {C : Addr} {R : Rl β} {y : β} {xs : List Im}
theorem EV.callY (T : Kn X.prog X.w X.K X.mg X.base k x ps (spY A pre res)) (hr : Room k X.A) (tk : L2N.Takes X W) (ha : AV X b Γ (e :: es) (A i)) (hp : pre i) (h1 : ∀ s', res i = .ok s' → s' = s) (h2 : ∀ C, res i = .err C → Xw b Γ W C) (h3 : ∀ C fs, res i = .errF C fs → XwF b Γ W C fs) (hg : Gl X x := by rfl)
    (hdb : (x == ("__debug__" : Str)) = false := by decide) (he : starEach (e :: es) X.env = (false, eval e X.env) :: starEach es X.env := by rfl) (hpl : (backTo pos (starEach es X.env)).any (·.1) = false := by rfl) : EV X b Γ (.Call (.Name x p) (e :: es) [] pos) s := by
  obtain ⟨ta, p1, p2⟩ := ha
  obtain ⟨f, fd, F, hm, hk, hb⟩ := T.ex
  refine EV.of (pe_callS F hr hg hm hk hb (fun σ => L2N.passAt tk σ) p1 hdb he hpl) fun σ F H l g d Q q => p2 σ F H l g d _ fun vs F1 H1 w hv => ?_
  refine ⟨i, F1, w.e, hv, hp, fun s' hs v F' H' l' w' p f => ?_, fun C hC H' h => ?_, fun C fs hC H' dd h hd => ?_⟩
  · rw [h1 s' hs] at p
    exact q v F' H' l' (w.trans w') p fun a ha => ⟨ex_none w.h (f a ha).1, (f a ha).2⟩
  · have w2 := w.trans (Ex.gw w.e h)
    exact h2 C hC σ F1 H' ⟨l, g.grow w2, d.grow g.t w2⟩
  · have w2 := w.trans (Ex.gw w.e h)
    exact h3 C fs hC σ F1 H' dd ⟨l, g.grow w2, d.grow g.t w2⟩ hd
/-- o.m(..) -/
theorem EV.methY {pl : Sem Bool} (T : KnM X.prog X.w X.K X.mg X.base k C m ps (spY A pre res)) (hr : Room k X.A) (tk : L2N.Takes X W) (ho : EV X b Γ o (im R y)) (hR : ∀ F v, R.r F v y → ∃ a dx fs, v = .ref a ∧ F a = some (.ins C dx fs) ∧ fs.lookup m = none) (ha : AV X b Γ (e :: es) xs) (hA : A i = mk R y :: xs) (hp : pre i)
    (h1 : ∀ s', res i = .ok s' → s' = s) (h2 : ∀ C, res i = .err C → Xw b Γ W C) (h3 : ∀ C fs, res i = .errF C fs → XwF b Γ W C fs)
    (hst : starEach (e :: es) X.env = (false, eval e X.env) :: starEach es X.env := by rfl) (hpl : (backTo pos (starEach es X.env)).any (·.1) = false := by rfl)
    (ht : eval (.Call (.Attribute o m apos) (e :: es) [] pos) X.env = (do
      let ov ← eval o X.env
      standAt apos.atName
      let (f, first) ← holding [ov] (getMethod ov m pl)
      callWith pos f first (backTo pos (starEach (e :: es) X.env)) (backToKw pos (keywordEach [] X.env))) := by rfl) : EV X b Γ (.Call (.Attribute o m apos) (e :: es) [] pos) s := by
  obtain ⟨ta, p1, p2⟩ := ha
  obtain ⟨f, fd, F, hm, hb⟩ := T.ex
  refine EV.of (pe_methX pe_w T.cl hm F hr hb (fun σ => L2N.passAt tk σ) p1 hst hpl ht) fun σ F H l g d Q q => ho σ F H l g d _ fun v F1 H1 l1 w ⟨_, hv⟩ _ => ?_
  obtain ⟨a, dx, fs, rfl, ha, hl⟩ := hR F1 v hv
  refine ⟨a, dx, fs, rfl, w.e a _ ha, hl, p2 σ F1 H1 l (g.grow w) (d.grow g.t w) _ fun vs F2 H2 w1 hvs => ?_⟩
  have w := w.trans w1
  refine ⟨i, F2, w.e, by rw [hA]; exact .cons (R.m w1.f hv) hvs, hp, fun s' hs v F' H' l' w' p f => ?_, fun C hC H' h => ?_, fun C fs hC H' dd h hd => ?_⟩
  · rw [h1 s' hs] at p
    exact q v F' H' l' (w.trans w') p fun a ha => ⟨ex_none w.h (f a ha).1, (f a ha).2⟩
  · have w2 := w.trans (Ex.gw w.e h)
    exact h2 C hC σ F2 H' ⟨l, g.grow w2, d.grow g.t w2⟩
  · have w2 := w.trans (Ex.gw w.e h)
    exact h3 C fs hC σ F2 H' dd ⟨l, g.grow w2, d.grow g.t w2⟩ hd
end
/-! ### the suite that takes both -/
/-- a caught error at a, its dict at d -/
def xe (a d : Addr) (fs : List (Str × V)) : Sl where
  P := fun F _ v l => l = [] ∧ v = .ref a ∧ F d = some (.xd fs)
  m := fun e _ h => ⟨h.1, h.2.1, e d _ h.2.2⟩
  t := fun h a ha => by rw [h.1] at ha; cases ha
  d := fun h => by rw [h.1]; exact List.nodup_nil
section
variable {X : Cx} {b : Bs} {D : EndC} {Γ : Ctx} {CB : Addr} {n nx : Str} {pos np pos' : Pos} {rest bd suite : List Stmt} {i : Nat} {Wout : WX} {b₀ : Stmt}
abbrev SuC (X : Cx) (b : Bs) (D : EndC) (i : Nat) (rest : List Stmt) : EndC := ⟨fun Γ => HT X b D (Γ.set i none) rest, D.rt, fun Γ => D.bk (Γ.set i none), fun Γ => D.ct (Γ.set i none)⟩
theorem HT.tryAsF (i : Nat) (hc : Names X nx (.ref CB)) (tk : L2N.Takes X Wout)
    (hb : ∀ (W : WX) (pn : List (Addr × Obj)) (xE : Value → Shared → Prop), L2N.Takes (X.tr pn xE) W → PassesOwn (model X.prog X.w) X.A X.env xE →
      (∀ (Γ' : Ctx) (C : Addr) (b' : Bs), Up b b' → PySem.W.exmOne X.K (.ref C) (.ref CB) = some true → (∀ (a : Addr) (oe : Obj) (pn : List (Addr × Obj)), L2N.Zn (.ref C) none oe → (∃ vs, oe.data = .fields vs) →
        HT (X.suite a ((a, oe) :: pn)) b (SuC X b D i rest) (Γ'.set i (some (vx (.ref a)))) (b₀ :: suite)) → Xw b' Γ' W C) →
      (∀ (Γ' : Ctx) (C : Addr) (fs : List (Str × V)) (b' : Bs), Up b b' → PySem.W.exmOne X.K (.ref C) (.ref CB) = some true → (∀ (a d : Addr) (oe : Obj) (pn : List (Addr × Obj)), L2N.Zn (.ref C) (some d) oe → (∃ vs, oe.data = .fields vs) →
        HT (X.suite a ((a, oe) :: pn)) b (SuC X b D i rest) (Γ'.set i (some (xe a d fs))) (b₀ :: suite)) → XwF b' Γ' W C fs) →
      HT (X.tr pn xE) b (D.into X b rest) Γ bd)
    (nd : X.N.Nodup) (hs : X.stack = X.env :: X.outer := by rfl) (hf : X.env.frame = some X.env.locals := by rfl) (hi : X.N[i]? = some n := by rfl) (hln : X.env.kindOf n = some .local := by rfl) :
    HT X b D Γ (.Try bd [.ExceptHandler (some (.Name nx np)) (some n) (b₀ :: suite) pos'] [] [] pos :: rest) :=
  HT.step (L2N.ps_try_as (tb := fun W D σ H => ∀ pn xE, L2N.Takes (X.tr pn xE) W → PassesOwn (model X.prog X.w) X.A X.env xE → wS (X.tr pn xE) bd D σ H) (ts := fun a cls d D σ H => ∀ oe pn, L2N.Zn cls d oe → (∃ vs, oe.data = .fields vs) → wS (X.suite a ((a, oe) :: pn)) (b₀ :: suite) D σ H)
    hs hf nd hi hln hc tk (fun W pn xE tk po => ⟨fun pins s σ H D I h => h pn xE tk po pins s I⟩) (fun a oe cls d pn hz hv => ⟨fun pins s σ H D I h => h oe pn hz hv pins s I⟩)) fun σ F H g pn xE tk2 po => by
    have back : ∀ (Q : Ctx → Prop) σ2 H2, At b (fun Γ => Q (Γ.set i none)) σ2 H2 → At b Q (σ2.set i none) H2 := fun Q σ2 H2 ⟨Γ2, F2, ⟨l, g2, d2⟩, q⟩ => by
      obtain ⟨l2, k1, k2, k3⟩ := SgL.put (o' := none) (w := none) (l' := []) trivial List.nodup_nil i g2 d2.nd (fun _ h => nomatch h)
      exact ⟨_, F2, ⟨l2, k1, d2.of_l k2 fun a ha => by
        rcases k3 a ha with z | z
        · exact ⟨d2.of a z, d2.ob a z⟩
        · cases z⟩, q⟩
    have fin : ∀ {X' : Cx} {σ' H'} {sts : List Stmt}, wS X' sts ((SuC X b D i rest).ends b) σ' H' → wS X' sts { nx := fun σ' H' => wS X rest (D.ends b) (σ'.set i none) H', rt := (D.ends b).rt, bk := fun σ' H' => (D.ends b).bk (σ'.set i none) H', ct := fun σ' H' => (D.ends b).ct (σ'.set i none) H' } σ' H' := fun h =>
      wS.mono h (fun σ2 H2 h => by
        obtain ⟨Γ3, F3, g3, h3⟩ := back (fun Γ => HT X b D Γ rest) σ2 H2 h
        exact h3 _ F3 H2 g3) (fun _ _ h => h) (fun σ2 H2 h => back _ σ2 H2 h) (fun σ2 H2 h => back _ σ2 H2 h)
    refine HT.into (hb _ pn xE tk2 po (fun Γ' C b' u hex hsu σ' F' H' g' => ?_) (fun Γ' C fs b' u hex hsu σ' F' H' dd g' hd => ?_) σ F H g)
    · have g' := u.sg g'
      exact ⟨true, hex, fun _ a ha oe pn2 hz hv => fin (hsu a oe pn2 hz hv _ F' H' (Sg.put0 i g' ⟨rfl, rfl⟩)), fun z => nomatch z⟩
    · obtain ⟨l', g1, d1⟩ := u.sg g'
      have w := Gw.new (o := .xd fs) d1.e hd
      exact ⟨true, hex, fun _ a ha oe pn2 hz hv => fin (hsu a dd oe pn2 hz hv _ _ _ (Sg.put0 (s := xe a dd fs) i ⟨l', g1.grow w, d1.grow g1.t w⟩ ⟨rfl, rfl, upd_same⟩)), fun z => nomatch z⟩
/-- e.f -/
theorem EV.xf {a d C : Addr} {oe : Obj} {pn : List (Addr × Obj)} {fs : List (Str × V)} {f : Str} {z : Str} (T : XfC X.K C) (hno : PySem.W.findIn X.K (.ref C) f = some none) (hz : L2N.Zn (.ref C) (some d) oe) (hf : ∃ vs, oe.data = .fields vs) (i : Nat) (hΓ : Γ[i]? = some (some (xe a d fs))) (hl : fs.lookup f = some (.str z))
    (hN : X.N[i]? = some n := by rfl) (hv : Vis X.env.scope n := by first | exact Or.inl rfl | exact Or.inr (Or.inl rfl) | exact Or.inr (Or.inr rfl)) (hd : (n == ("__debug__" : Str)) = false := by decide) (hcd : (n == ("__classdict__" : Str)) = false := by decide)
    (hb : attributeBase (.Name n np) f X.env (eval (.Name n np) X.env) = eval (.Name n np) X.env := by rfl) : EV (X.suite a ((a, oe) :: pn)) b Γ (.Attribute (.Name n np) f pos) (im rS z) :=
  EV.of (pe_xf (X := X) T hno hz.zc hf (pe_var hN hv hd hcd) hb) (EvS.mki fun σ F H l g dd Q q => by
    obtain ⟨v, l1, h1, h2, _⟩ := g.get hΓ
    exact ⟨v, h1, h2.2.1, rfl, d, fs, .str z, rfl, dd.e d _ h2.2.2, hl, q _ F H (Gw.refl dd.e) rfl⟩)
end
end Lg

namespace Lg
open PySem L2 Evl PyProof.Rows PySem.W PySem.Calls
/-! ### isinstance of an error that has a dict -/
section
variable {prog : Program} {w : World} {A : Around} {E : Value → Shared → Prop} {s : Shared} {K : Frag} {x D : Addr} {ox : Obj} {oD' : Option Obj}
theorem find_clsD (T : ExcC K D) : findObj K D oD' "__class__" = some (.bind (.builtin "getset_descriptor.__get__") (.builtin "object.__class__")) := by
  obtain ⟨cd, hc, _⟩ := any_some T.hd
  unfold findObj
  rw [hc, Option.bind_some, T.ha, Option.bind_some]
  simp [T.hn, T.ht]
theorem cls_of_err {Q : Option Value → Shared → Prop} (T : ExcC K D) (kin : K.In s.heap) (at_ : InstAt s.heap x ox D oD') (goal : Q (some (.ref D)) { s with toks := s.toks + 1 }) : wpAny (model prog w) A (getAttr? (.ref x) "__class__") Q E s := by
  have fnd : findObj K D oD' "__class__" = some (.bind (.builtin "getset_descriptor.__get__") (.builtin "object.__class__")) := find_clsD T
  obtain ⟨heap, gens, drawn, tick, osst⟩ := s
  have K0 := at_.type (M := model prog w)
  have K1 := looks_findIn (M := model prog w) kin T.hg
  have K2 := looks_findIn (M := model prog w) kin T.hk
  have K3 := looks_find (M := model prog w) kin at_ fnd
  have isE : Looks (model prog w) heap (isInstance (.ref x) (.type "BaseException")) true := K0.andThen (looks_subIn kin T.hs)
  have z0 : (false && onTheHeap (Value.builtin "BaseException.__getattribute__")) = false := rfl
  have z2 : (Value.builtin "BaseException.__getattribute__" == Value.builtin "object.__getattribute__") = false := by decide +kernel
  have z1 : (onTheHeap (Value.ref D) && Value.builtin "BaseException.__getattribute__" == Value.builtin "object.__getattribute__") = false := by rw [z2]; rfl
  unfold getAttr? getAttrBy? getAttrBy
  refine wpAny_bind (wpAny_mkText (wpAny_bind (wpAny_attempt (wpAny_holding (wpAny_bind (K0.at (wpAny_bind (K1.at ?_))))))))
  show wpAny _ _ (if (onTheHeap (Value.ref D) && Value.builtin "BaseException.__getattribute__" == Value.builtin "object.__getattribute__") = true then _ else _) _ _ _
  rw [z1, if_neg Bool.false_ne_true]
  unfold getAttrByItsOwn hookBefore
  refine wpAny_bind ?_
  rw [if_pos (show onTheHeap (Value.ref D) = true from rfl)]
  refine K2.at ?_
  refine wpAny_bind (wpAny_attempt (wpAny_holding ?_))
  unfold callGetattribute
  rw [z0, if_neg Bool.false_ne_true]
  unfold boundAndCalled
  rw [PySem.F.excAttr_ValueError.ga.bind (.ref x)]
  refine wpAny_bind (wpAny_pure ?_)
  show wpAny _ _ (call (.builtin "BaseException.__getattribute__") [.ref x, .str "__class__" tick]) _ _ _
  refine wpAny_call (codeAny_call_builtin PySem.F.excAttr_ValueError.ga.plain PySem.F.entry_bexc_ga ?_)
  refine @check_slot (model prog w) _ _ ⟨heap, gens, drawn, tick + 1, osst⟩ "BaseException.__getattribute__" "BaseException" "__getattribute__" (.ref x) [.str "__class__" tick] [] _ (by decide +kernel) (by decide +kernel) isE (PySem.F.args_bexc_ga (.ref x) (.str "__class__" tick)) ?_
  unfold Builtin.«object.__getattribute__»
  refine wpAny_bind (wpAny_of_eq (a := ((Value.ref x : Value), [Value.str "__class__" tick])) (by first | rfl | (simp only [slotArgs]; rfl)) ?_)
  refine wpAny_bind (wpAny_pure (wpAny_bind (K0.at (wpAny_bind (K3.at ?_)))))
  show wpAny _ _ (holding [Value.builtin "object.__class__"] (call (.builtin "getset_descriptor.__get__") [.builtin "object.__class__", .ref x, .ref D]) >>= ret) _ _ _
  refine wpAny_bind (wpAny_holding (wpAny_call (class_get (s := ⟨heap, gens, drawn, tick + 1, osst⟩) (ox := ox) (od := oD') kin at_ T.hm ?_)))
  refine wpAny_pure ?_
  show wpAny _ _ (handedOut (.ref D)) _ _ _
  rw [handedOut_of (v := .ref D) rfl]
  first
    | exact wpAny_pure (wpAny_pure goal)
    | exact wpAny_pure goal
    | exact wpAny_pure (wpAny_bind (wpAny_pure (wpAny_pure goal)))
theorem kitx_err (T : ExcC K D) : KitX K (.ref x) (.ref D) (fun h => InstAt h x ox D oD') where
  ty := fun _ _ _ I => I.type
  it := fun _ _ kin _ => by
    obtain ⟨cd, hc, _⟩ := any_some T.hd
    unfold clsIn at hc
    split at hc
    · rename_i c' d' cd' sl' ho
      intro A' Q' E' s' k q
      unfold isType loadHead
      exact wpAny_bind (wpAny_loadPart (k _ _ (kin _ _ ho)) (wpAny_pure q))
    · cases hc
  ne := fun h tp dd its n sl kin htp => by
    obtain ⟨cd, hc, _⟩ := any_some T.hd
    unfold clsIn at hc
    refine Bool.eq_false_iff.mpr fun q => ?_
    have e : D = tp := Value.ref.inj (beq_iff_eq.mp q)
    subst e
    split at hc
    · rename_i c' d' cd' sl' ho
      exact nomatch ((kin _ _ ho).symm.trans htp)
    · cases hc
  ca := fun kin I k => cls_of_err T kin I k
end
/-- isinstance(e, c), e the error that the suite holds, its dict at d -/
def rIsD (K : PySem.W.Frag) (D a d : Addr) : List V → Hp → VK → Prop := fun xs H Q => ∃ (c : V) (cv : Value) (b : Bool) (fs : List (Str × V)), xs = [.ref a, c] ∧ (∀ u, RelV c u → u = cv) ∧ PySem.W.kitOne K (.ref D) cv = some b ∧ H d = some (.xd fs) ∧ Q (.bl b) H
theorem call_isD {X : Cx} {a D d : Addr} {oe : Obj} {pn : List (Addr × Obj)} (T : ExcC X.K D) (hz : L2N.Zn (.ref D) (some d) oe) (hf : ∃ vs, oe.data = .fields vs) : CallR (X.suite a ((a, oe) :: pn)) (.builtin "isinstance") (rIsD X.K D a d) := by
  intro pins s σ H xs us Q I r h
  obtain ⟨c, cv, b, fs, rfl, hcv, e, hd, q⟩ := h
  cases r with
  | cons rx rr =>
    cases rr with
    | cons rt rr =>
      cases rr
      cases rx
      cases hcv _ rt
      obtain ⟨hget, _⟩ := I.pin (a, oe) (List.mem_append.mpr (.inl List.mem_cons_self))
      obtain ⟨vs, hv⟩ := hf
      have hx : ObjOk X.prog X.w H s.heap d (.xd fs) := I.hok d _ hd
      obtain ⟨mA, hns, hr⟩ := hx
      obtain ⟨od, ho, hl⟩ := lookIn_ns hns
      have J : PySem.W.InstAt s.heap a oe D (some od) := ⟨hget, hz.1, by unfold PySem.W.notCls; rw [hv] <;> rfl, by rw [hz.2.1]; exact ho⟩
      exact PySem.W.kia_one (kitx_err T) I.kIn J e (fun z => nomatch z) fun tk => ⟨.bl b, H, I.kept (t' := tk) fun _ _ z => z, rfl, q⟩
section
variable {X : Cx} {b : Bs} {Γ : Ctx} {n : Str} {pos : Pos}
theorem EV.isEF {a d D C' : Addr} {oe : Obj} {pn : List (Addr × Obj)} {fs : List (Str × V)} {c : Bool} {cx : Str} {p1 p2 p3 : Pos} (T : ExcC X.K D) (hz : L2N.Zn (.ref D) (some d) oe) (hf : ∃ vs, oe.data = .fields vs) (i : Nat) (hΓ : Γ[i]? = some (some (xe a d fs))) (hm : X.mg "isinstance" = none) (hC : X.mg cx = some (.ref C')) (hk : PySem.W.kitOne X.K (.ref D) (.ref C') = some c)
    (hN : X.N[i]? = some n := by rfl) (hv : Vis X.env.scope n := by first | exact Or.inl rfl | exact Or.inr (Or.inl rfl) | exact Or.inr (Or.inr rfl)) (hg : Gl X "isinstance" := by rfl) (hgc : Gl X cx := by rfl)
    (hd : (n == ("__debug__" : Str)) = false := by decide) (hcd : (n == ("__classdict__" : Str)) = false := by decide) (hdc : (cx == ("__debug__" : Str)) = false := by decide) :
    EV (X.suite a ((a, oe) :: pn)) b Γ (.Call (.Name "isinstance" p1) [.Name n p2, .Name cx p3] [] pos) (im rB c) :=
  EV.of (pe_callB (X := X.suite a ((a, oe) :: pn)) (call_isD T hz hf) hg hm (by decide +kernel) (pa_cons (pe_var hN hv hd hcd) (pa_cons (pe_glob (v := .ref C') hgc hC rfl hdc) pa_nil))) (EvS.mki fun σ F H l g dd Q q => by
    obtain ⟨v, l1, h1, h2, _⟩ := g.get hΓ
    refine ⟨v, h1, .ref C', .ref C', c, fs, by rw [h2.2.1], fun u hu => hu, hk, dd.e d _ h2.2.2, q _ F H (Gw.refl dd.e) rfl⟩)
end
end Lg

namespace Lg
open PySem L2 Evl PyProof.Rows
/-! ### a dict of lists, all one's own -/
inductive DL {α : Type} (R : Rl α) (F H : Hp) : List (Key × V) → List (Str × List α) → List Addr → Prop
  | nil : DL R F H [] [] []
  | cons {n : Str} {r : Addr} {xs : List V} {as : List α} {ws : List (Key × V)} {kvs : List (Str × List α)} {qs : List Addr} : H r = some (.lst xs) → All2 (R.r F) xs as → DL R F H ws kvs qs → DL R F H ((Sum.inr n, .ref r) :: ws) ((n, as) :: kvs) (r :: qs)
section
variable {α : Type} {R : Rl α} {F F' H H' : Hp} {ws : List (Key × V)} {kvs : List (Str × List α)} {qs : List Addr}
theorem DL.m (e : Ex F F') (h : DL R F H ws kvs qs) : (∀ r ∈ qs, H' r = H r) → DL R F' H' ws kvs qs := by
  induction h with
  | nil => exact fun _ => .nil
  | cons h1 h2 _ ih => exact fun k => .cons (by rw [k _ List.mem_cons_self]; exact h1) (h2.imp fun _ _ => R.m e) (ih fun r hr => k r (List.mem_cons_of_mem _ hr))
theorem DL.t (h : DL R F H ws kvs qs) : ∀ r ∈ qs, H r ≠ none := by
  induction h with
  | nil => exact fun _ z => nomatch z
  | cons h1 _ _ ih =>
    intro c hc
    rcases List.mem_cons.mp hc with z | z
    · rw [z, h1]; exact fun z => nomatch z
    · exact ih c z
theorem DL.keys (h : DL R F H ws kvs qs) : ws.map (·.1) = kvs.map fun p => (Sum.inr p.1 : Key) := by
  induction h with
  | nil => rfl
  | cons _ _ _ ih => rw [List.map_cons, List.map_cons, ih]
theorem DL.len (h : DL R F H ws kvs qs) : ws.length = kvs.length := by
  have := congrArg List.length h.keys
  rwa [List.length_map, List.length_map] at this
theorem DL.one (h : DL R F H ws kvs qs) {n : Str} {r : Addr} {xs : List V} {as : List α} (h1 : H r = some (.lst xs)) (h2 : All2 (R.r F) xs as) : DL R F H (ws ++ [(Sum.inr n, .ref r)]) (kvs ++ [(n, as)]) (qs ++ [r]) := by
  induction h with
  | nil => exact .cons h1 h2 .nil
  | cons a b _ ih => exact .cons a b ih
theorem put_fresh {ws : List (Key × V)} {k : Key} {v : V} (h : k ∉ ws.map (·.1)) : putK ws k v = ws ++ [(k, v)] := by
  unfold putK
  rw [if_neg]
  intro q
  obtain ⟨kv, h1, h2⟩ := List.any_eq_true.mp q
  exact h (List.mem_map.mpr ⟨kv, h1, of_decide_eq_true h2⟩)
end
/-- .. as a slot -/
def owDL {α : Type} (R : Rl α) (kvs : List (Str × List α)) : Sl where
  P := fun F H v l => ∃ q ws qs, v = .ref q ∧ l = q :: qs ∧ l.Nodup ∧ H q = some (.dK ws) ∧ DL R F H ws kvs qs
  m := fun e k ⟨q, ws, qs, h1, h2, h3, h4, h5⟩ => ⟨q, ws, qs, h1, h2, h3, by rw [k q (by rw [h2]; exact List.mem_cons_self)]; exact h4, h5.m e fun r hr => k r (by rw [h2]; exact List.mem_cons_of_mem _ hr)⟩
  t := fun ⟨q, ws, qs, h1, h2, h3, h4, h5⟩ a ha => by
    rw [h2] at ha
    rcases List.mem_cons.mp ha with z | z
    · rw [z, h4]; exact fun z => nomatch z
    · exact h5.t a z
  d := fun ⟨q, ws, qs, h1, h2, h3, h4, h5⟩ => h3
section
variable {X : Cx} {b : Bs} {Γ : Ctx} {α : Type} {R : Rl α} {as : List Str} {kx vx iter : Expr} {scope : Scope} {pos np : Pos} {n : Str} {j : Nat}
theorem EV.dcLists (hi : IV X b Γ (.Name n np) iter as.length (IL rS as)) (nd : X.N.Nodup) (ok : blkC X.N X.env.scope scope [(n, j)] = true) (hm : as.length ≤ 50000) (hnd : as.Nodup)
    (hk : ∀ (b' : Bs) (i : Nat) (a : Str) s H0 C cl fp, b'.B = b.B → as[i]? = some a → EV (X.blk s H0 scope (compEnvC scope cl C X.env) fp) b' (Sb Γ j (mk rS a)) kx (im rS a))
    (hv : ∀ (b' : Bs) (i : Nat) (a : Str) s H0 C cl fp, b'.B = b.B → as[i]? = some a → EV (X.blk s H0 scope (compEnvC scope cl C X.env) fp) b' (Sb Γ j (mk rS a)) vx (ow R []))
    (hg : ∀ (s : Shared) (H0 : Hp) (C : Addr) (cl : List (Str × Addr)) (fp : List Addr), PG (X.blk s H0 scope (compEnvC scope cl C X.env) fp) (.Name n np) (gName j)) (hc : X.calm = true := by rfl) (hf : ∀ x, foldedSetIterable iter X.env x = pure x := by intro _; rfl) :
    EV X b Γ (.DictComp kx vx [⟨.Name n np, iter, [], 0⟩] scope pos) (owDL R (as.map fun a => (a, []))) := by
  obtain ⟨wi, p1, k1⟩ := hi
  refine EV.of (pe_dc (own := [(n, j)]) (g := gName j) (tt := tYes) (tk := wEb X scope kx) (tv := wEb X scope vx) hc nd p1 (blkOk_by ok) hg (fun _ _ _ _ _ => pts_nil) (fun _ _ _ _ _ => pe_wb) (fun _ _ _ _ _ => pe_wb) hf) fun σ F H l g d Q q => ?_
  refine k1 σ F H l g d _ fun J F1 H1 w ⟨G, Y, W, hG, hY⟩ D hD => ?_
  have d1 := d.grow g.t w
  have g1 := g.grow w
  obtain ⟨l2, g2, nd2, sub2⟩ := SgL.put (o' := none) (w := none) (l' := []) trivial List.nodup_nil j g1 d1.nd (fun _ h => nomatch h)
  have sub2 : ∀ a ∈ l2, a ∈ l := fun a ha => (sub2 a ha).elim id fun z => nomatch z
  have d2 : Gd ⟨F1, b.B⟩ F1 H1 l2 := d1.self.of_l nd2 fun a ha => ⟨d1.of a (sub2 a ha), d1.ob a (sub2 a ha)⟩
  have nB : b.B D = none := ex_none d1.eb hD
  have nF : F1 D = none := ex_none d1.e hD
  have nl : D ∉ l2 := fun z => g1.t D (sub2 D z) hD
  have c0 : Cv b F1 H1 (Γ.set j none) (σ.set j none) D l2 F1 (upd H1 D (.dK [])) := Cv.upd ⟨g2, d2, Gw.refl d1.e, nl, nB, nF, hD⟩
  let Pv : Nat → Hp → Prop := fun i H' => ∃ F' ws qs, Cv b F1 H1 (Γ.set j none) (σ.set j none) D l2 F' H' ∧ H' D = some (.dK ws) ∧ DL R F' H' ws ((as.take i).map fun a => (a, [])) qs ∧ (D :: qs).Nodup ∧ (∀ r ∈ qs, H1 r = none ∧ F' r = none) ∧ i ≤ as.length
  refine ⟨fun i m H => m = as.length - i ∧ i ≤ as.length ∧ Pv i H, ⟨as.length, by simp, Nat.zero_le _, F1, [], [], c0, upd_same, .nil, by simp, (fun _ z => nomatch z), Nat.zero_le _⟩, ?_⟩
  rintro i m H' ⟨rfl, hi, F', ws, qs, c, ha, hdl, hqn, hqf, hi'⟩
  have hGG := hG F' H' c.d.ef c.d.e
  by_cases hlt : i < as.length
  · refine .inr ⟨W.goes i H' hlt hGG, Pv (i + 1), fun H'' p' => ⟨as.length - (i + 1), by omega, rfl, hlt, p'⟩, fun v H'' y => ?_⟩
    have y := W.yields i H' v H'' hlt hGG y
    obtain ⟨F'', y0, w', ⟨a, ha0, rfl⟩, r2⟩ := hY i F' H' v H'' hlt c.d.ef c.d.e y
    have hDn : H' D ≠ none := by rw [ha]; exact fun z => nomatch z
    have c2 := c.grow hDn w'
    have ha2 : H'' D = some (.dK ws) := w'.h D _ ha
    have hD2 : H'' D ≠ none := by rw [ha2]; exact fun z => nomatch z
    refine ⟨(by show ((σ.set j none).set j (some v)).set j none = σ.set j none; rw [List.set_set, List.set_set]), ?_⟩
    simp only [tYes, ↓reduceIte]
    obtain ⟨l3, g3, nd3, sub3⟩ := SgL.put (o' := some (im rS a)) (w := some v) (l' := []) ⟨v, rfl, rfl, r2⟩ List.nodup_nil j c2.g c2.d.nd (fun _ h => nomatch h)
    have sub3 : ∀ a ∈ l3, a ∈ l2 := fun a ha => (sub3 a ha).elim id fun z => nomatch z
    have d3 : Gd ⟨F1, b.B⟩ F'' H'' l3 := c2.d.of_l nd3 fun a ha => ⟨c2.d.of a (sub3 a ha), c2.d.ob a (sub3 a ha)⟩
    intro s H0 C cl fp
    refine hk ⟨F1, b.B⟩ i a s H0 C cl fp rfl ha0 _ F'' H'' l3 g3 d3 _ fun u F3 H3 l4 w3 p3 _ => ?_
    intro s H0 C cl fp
    refine hv ⟨F1, b.B⟩ i a s H0 C cl fp rfl ha0 _ F3 H3 l3 (g3.grow w3) (d3.grow g3.t w3) _ fun u2 F4 H4 l5 w4 ⟨r, xs, hu2, hl5, hr, hxs⟩ fr => ?_
    rw [hl5] at fr
    obtain ⟨fr1, fr2⟩ := fr r (List.mem_singleton.mpr rfl)
    have c3 := c2.grow hD2 w3
    have hD3 : H3 D ≠ none := by rw [w3.h D _ ha2]; exact fun z => nomatch z
    have c4 := c3.grow hD3 w4
    have a4 := w4.h D _ (w3.h D _ ha2)
    have wA := (w'.trans w3).trans w4
    have rD : r ≠ D := fun z => hD3 (z ▸ fr1)
    have e : as.take (i + 1) = as.take i ++ [a] := by rw [List.take_add_one, ha0]; rfl
    have old : ∀ c ∈ qs, H' c ≠ none := hdl.t
    have rq : r ∉ qs := fun z => by
      have := ex_some (w'.trans w3).h (old r z)
      exact this fr1
    have hnk : (Sum.inr a : Key) ∉ ws.map (·.1) := by
      rw [hdl.keys]
      intro z
      obtain ⟨p, hp, hpe⟩ := List.mem_map.mp z
      obtain ⟨a', ha', rfl⟩ := List.mem_map.mp hp
      have hpe : a' = a := Sum.inr.inj hpe
      subst hpe
      have hnd2 : (as.take (i + 1)).Nodup := (List.take_sublist (i + 1) as).nodup hnd
      rw [e] at hnd2
      exact (List.nodup_append.mp hnd2).2.2 a' ha' a' (List.mem_singleton.mpr rfl) rfl
    have hwl : ws.length = i := by rw [hdl.len, List.length_map, List.length_take]; omega
    refine ⟨ws, Sum.inr a, p3.2, a4, sz_lt (by omega), F4, putK ws (Sum.inr a) u2, qs ++ [r], c4.upd, upd_same, ?_, ?_, ?_, hlt⟩
    · rw [put_fresh hnk, e, List.map_append, hu2]
      have hH : ∀ c ∈ qs, (upd H4 D (.dK (ws ++ [(Sum.inr a, V.ref r)]))) c = H' c := fun c hc => by
        have hcD : c ≠ D := fun z => (List.nodup_cons.mp hqn).1 (z ▸ hc)
        rw [upd_ne hcD]
        exact ex_eq wA.h (old c hc)
      exact (hdl.m wA.f hH).one (by rw [upd_ne rD]; exact hr) hxs
    · obtain ⟨n1, n2⟩ := List.nodup_cons.mp hqn
      refine List.nodup_cons.mpr ⟨fun z => ?_, List.nodup_append.mpr ⟨n2, by simp, fun c hc c' hc' e => ?_⟩⟩
      · rcases List.mem_append.mp z with z | z
        · exact n1 z
        · exact rD (List.mem_singleton.mp z).symm
      · rw [List.mem_singleton.mp hc'] at e
        exact rq (e ▸ hc)
    · intro x hx
      rcases List.mem_append.mp hx with z | z
      · exact ⟨(hqf x z).1, wA.k x (hqf x z).2 (old x z)⟩
      · rw [List.mem_singleton.mp z]
        refine ⟨?_, fr2⟩
        exact ex_none ((c.w.trans w').trans w3).h fr1
  · have e : i = as.length := by omega
    subst e
    rw [List.take_length] at hdl
    refine .inl ⟨W.stops H' hGG, q (.ref D) F' H' (D :: qs) (w.trans c.w) ⟨D, ws, qs, rfl, rfl, hqn, ha, hdl⟩ fun a h => ?_⟩
    rcases List.mem_cons.mp h with z | z
    · rw [z]; exact ⟨ex_none w.h hD, c.nF⟩
    · exact ⟨ex_none w.h (hqf a z).1, (hqf a z).2⟩
end
end Lg

namespace Lg
open PySem L2 Evl PyProof.Rows
/-! ### an instance in the making that holds such a dict -/
inductive FlsO (F : Hp) (q : Addr) : List (Str × V) → List (Str × Option Im) → Prop
  | nil : FlsO F q [] []
  | cons {f : Str} {v : V} {x : Im} {ws : List (Str × V)} {xs : List (Str × Option Im)} : x.R.r F v x.a → FlsO F q ws xs → FlsO F q ((f, v) :: ws) ((f, some x) :: xs)
  | hole {f : Str} {ws : List (Str × V)} {xs : List (Str × Option Im)} : FlsO F q ws xs → FlsO F q ((f, .ref q) :: ws) ((f, none) :: xs)
def putO (f : Str) (o : Option Im) : List (Str × Option Im) → List (Str × Option Im)
  | [] => [(f, o)]
  | (g, y) :: r => if g = f then (f, o) :: r else (g, y) :: putO f o r
def allO (xs : List (Str × Im)) : List (Str × Option Im) := xs.map fun p => (p.1, some p.2)
section
variable {F F' : Hp} {q : Addr} {ws : List (Str × V)} {xs : List (Str × Option Im)}
theorem FlsO.m (e : Ex F F') (h : FlsO F q ws xs) : FlsO F' q ws xs := by
  induction h with
  | nil => exact .nil
  | cons h _ ih => exact .cons (Rl.m _ e h) ih
  | hole _ ih => exact .hole ih
theorem FlsO.of {ws : List (Str × V)} {xs : List (Str × Im)} (h : Fls F ws xs) : FlsO F q ws (allO xs) := by
  induction h with
  | nil => exact .nil
  | cons h _ ih => exact .cons h ih
theorem FlsO.len (h : FlsO F q ws xs) : ws.length = xs.length := by
  induction h with
  | nil => rfl
  | cons _ _ ih => simp [ih]
  | hole _ ih => simp [ih]
theorem FlsO.putD {f : Str} {v : V} {x : Im} (hx : x.R.r F v x.a) (h : FlsO F q ws xs) : FlsO F q (putF f v ws) (putO f (some x) xs) := by
  induction h with
  | nil => exact .cons hx .nil
  | @cons g u y ws xs h1 t ih =>
    unfold putF putO
    by_cases z : g = f
    · rw [if_pos z, if_pos z]; first | exact .cons hx t | (subst z; exact .cons hx t)
    · rw [if_neg z, if_neg z]; exact .cons h1 ih
  | @hole g ws xs t ih =>
    unfold putF putO
    by_cases z : g = f
    · rw [if_pos z, if_pos z]; first | exact .cons hx t | (subst z; exact .cons hx t)
    · rw [if_neg z, if_neg z]; exact .hole ih
theorem FlsO.putH {f : Str} (h : FlsO F q ws xs) : FlsO F q (putF f (.ref q) ws) (putO f none xs) := by
  induction h with
  | nil => exact .hole .nil
  | @cons g u y ws xs h1 t ih =>
    unfold putF putO
    by_cases z : g = f
    · rw [if_pos z, if_pos z]; first | exact .hole t | (subst z; exact .hole t)
    · rw [if_neg z, if_neg z]; exact .cons h1 ih
  | @hole g ws xs t ih =>
    unfold putF putO
    by_cases z : g = f
    · rw [if_pos z, if_pos z]; first | exact .hole t | (subst z; exact .hole t)
    · rw [if_neg z, if_neg z]; exact .hole ih
def isF (F : Hp) (q : Addr) (v : V) : Option Im → Prop
  | none => v = .ref q
  | some x => x.R.r F v x.a
theorem FlsO.look {f : Str} {o : Option Im} (h : FlsO F q ws xs) (hl : xs.lookup f = some o) : ∃ v, ws.lookup f = some v ∧ isF F q v o := by
  induction h with
  | nil => cases hl
  | @cons g u y ws xs h1 t ih =>
    rw [List.lookup_cons] at hl ⊢
    cases z : f == g with
    | true => rw [z] at hl; cases hl; exact ⟨_, rfl, h1⟩
    | false => rw [z] at hl; simpa using ih hl
  | @hole g ws xs t ih =>
    rw [List.lookup_cons] at hl ⊢
    cases z : f == g with
    | true => rw [z] at hl; cases hl; exact ⟨_, rfl, rfl⟩
    | false => rw [z] at hl; simpa using ih hl
/-- the hole filled -/
def fill (x : Im) (xs : List (Str × Option Im)) : List (Str × Im) := xs.map fun p => (p.1, p.2.getD x)
theorem FlsO.fill {x : Im} (hx : x.R.r F (.ref q) x.a) (h : FlsO F q ws xs) : Fls F ws (Lg.fill x xs) := by
  induction h with
  | nil => exact .nil
  | cons h1 _ ih => exact .cons h1 ih
  | hole _ ih => exact .cons hx ih
end
def obD {α : Type} (C a : Addr) (fs : List (Str × Option Im)) (R : Rl α) (kvs : List (Str × List α)) : Sl where
  P := fun F H v l => ∃ dx ws q dws qs, v = .ref a ∧ l = a :: q :: qs ∧ l.Nodup ∧ H a = some (.ins C dx ws) ∧ FlsO F q ws fs ∧ H q = some (.dK dws) ∧ DL R F H dws kvs qs
  m := fun e k ⟨dx, ws, q, dws, qs, h1, h2, h3, h4, h5, h6, h7⟩ => ⟨dx, ws, q, dws, qs, h1, h2, h3, by rw [k a (by rw [h2]; exact List.mem_cons_self)]; exact h4, h5.m e, by rw [k q (by rw [h2]; exact List.mem_cons_of_mem _ List.mem_cons_self)]; exact h6, h7.m e fun r hr => k r (by rw [h2]; exact List.mem_cons_of_mem _ (List.mem_cons_of_mem _ hr))⟩
  t := fun ⟨dx, ws, q, dws, qs, h1, h2, h3, h4, h5, h6, h7⟩ c hc => by
    rw [h2] at hc
    rcases List.mem_cons.mp hc with z | hc
    · rw [z, h4]; exact fun z => nomatch z
    rcases List.mem_cons.mp hc with z | hc
    · rw [z, h6]; exact fun z => nomatch z
    exact h7.t c hc
  d := fun ⟨dx, ws, q, dws, qs, h1, h2, h3, _⟩ => h3
/-! what a slot owns, taken out and put back -/
theorem SgL.out {F H : Hp} {Γ : Ctx} {σ : L2.St} {l : List Addr} {i : Nat} {s : Sl} (g : SgL F H Γ σ l) (nd : l.Nodup) (hΓ : Γ[i]? = some (some s)) : ∃ v l1 l2, σ[i]? = some (some v) ∧ s.P F H v l1 ∧ (∀ a ∈ l1, a ∈ l) ∧ SgL F H (Γ.set i (some (vx v))) σ l2 ∧ l2.Nodup ∧ ∀ a ∈ l2, a ∈ l ∧ a ∉ l1 := by
  obtain ⟨v, l1, h1, h2, h3, h4⟩ := g.frz nd hΓ
  obtain ⟨l2, k1, k2, k3⟩ := h4 F (vx v) (Ex.refl F) ⟨rfl, rfl⟩
  exact ⟨v, l1, l2, h1, h2, h3, k1, k2, k3⟩
theorem Sg.back {b : Bs} {F H F' H' : Hp} {Γ : Ctx} {σ : L2.St} {l2 l' : List Addr} {i : Nat} {s' : Sl} {v : V} (g2 : SgL F H (Γ.set i (some (vx v))) σ l2) (n2 : l2.Nodup) (hv : σ[i]? = some (some v)) (d : Gd b F' H' (l2)) (e : Ex F F') (k : ∀ a ∈ l2, H' a = H a) (p : s'.P F' H' v l') (dj : ∀ a ∈ l', a ∉ l2) (of : ∀ a ∈ l', F' a = none) (ob : ∀ a ∈ l', b.B a = none) : Sg b (Γ.set i (some s')) σ F' H' := by
  obtain ⟨l3, k1, k2, k3⟩ := SgL.put (o' := some s') (w := some v) (l' := l') ⟨v, rfl, p⟩ (s'.d p) i (g2.m e k) n2 dj
  rw [List.set_set, set_same hv] at k1
  refine ⟨l3, k1, d.of_l k2 fun a ha => ?_⟩
  rcases k3 a ha with z | z
  · exact ⟨d.of a z, d.ob a z⟩
  · exact ⟨of a z, ob a z⟩
theorem DL.get {α : Type} {R : Rl α} {F H : Hp} {ws : List (Key × V)} {kvs : List (Str × List α)} {qs : List Addr} (h : DL R F H ws kvs qs) {n : Str} (hn : n ∈ kvs.map (·.1)) (nk : (kvs.map (·.1)).Nodup) : qs.Nodup →
    ∃ r xs as, valV ws (Sum.inr n) = some (.ref r) ∧ r ∈ qs ∧ H r = some (.lst xs) ∧ All2 (R.r F) xs as ∧ (n, as) ∈ kvs ∧ ∀ y u, R.r F u y → DL R F (upd H r (.lst (xs ++ [u]))) ws (kvs.map fun p => if p.1 = n then (p.1, p.2 ++ [y]) else p) qs := by
  induction h with
  | nil => cases hn
  | @cons n' r xs as ws kvs qs h1 h2 t ih =>
    intro nq
    obtain ⟨q1, q2⟩ := List.nodup_cons.mp nq
    obtain ⟨k1, k2⟩ := List.nodup_cons.mp (show (n' :: kvs.map (·.1)).Nodup from nk)
    by_cases z : n' = n
    · subst z
      refine ⟨r, xs, as, valV_pos rfl, List.mem_cons_self, h1, h2, List.mem_cons_self, fun y u hu => ?_⟩
      rw [List.map_cons, if_pos rfl]
      refine .cons upd_same (h2.app (.cons hu .nil)) ?_
      have e : (kvs.map fun p => if p.1 = n' then (p.1, p.2 ++ [y]) else p) = kvs := by
        conv => rhs; rw [← List.map_id kvs]
        refine List.map_congr_left fun p hp => ?_
        rw [if_neg fun z => k1 (List.mem_map.mpr ⟨p, hp, z⟩)]; rfl
      rw [e]
      exact t.m (Ex.refl F) fun c hc => upd_ne fun z => q1 (z ▸ hc)
    · have hn' : n ∈ kvs.map (·.1) := (List.mem_cons.mp (show n ∈ n' :: kvs.map (·.1) from hn)).elim (fun e => absurd e.symm z) id
      obtain ⟨r', xs', as', e1, e2, e3, e4, e5, e6⟩ := ih hn' k2 q2
      refine ⟨r', xs', as', ?_, List.mem_cons_of_mem _ e2, e3, e4, List.mem_cons_of_mem _ e5, fun y u hu => ?_⟩
      · rw [valV_neg fun q => z (Sum.inr.inj q)]; exact e1
      · rw [List.map_cons, if_neg z]
        exact .cons (by rw [upd_ne fun (q : r = r') => q1 (by rw [q]; exact e2)]; exact h1) h2 (e6 y u hu)
end Lg

namespace Lg
open PySem L2 Evl PyProof.Rows
section
variable {X : Cx} {b : Bs} {D : EndC} {Γ : Ctx} {α β : Type} {R : Rl α} {S : Rl β} {y : β} {C a : Addr} {fl : List (Str × Im)} {fo : List (Str × Option Im)} {kvs : List (Str × List α)} {f n : Str} {e : Expr} {pos np tp sp apos cpos : Pos} {rest sts : List Stmt} {i : Nat}
/-- self.f = {..: [] ..} -/
theorem HT.fldDL (hc : Cls X.K C) (i : Nat) (hΓ : Γ[i]? = some (some (ob C a fl))) (he : EV X b Γ e (owDL R kvs)) (hn : NoAttr X.K C f) (hz : fl.length < 1000) (k : HT X b D (Γ.set i (some (obD C a (putO f none (allO fl)) R kvs))) rest) (hN : X.N[i]? = some n := by rfl) (hv : Vis X.env.scope n := by first | exact Or.inl rfl | exact Or.inr (Or.inl rfl) | exact Or.inr (Or.inr rfl))
    (hd : (n == ("__debug__" : Str)) = false := by decide) (hcd : (n == ("__classdict__" : Str)) = false := by decide) (hs : swapsWith e (some (.Attribute (.Name n np) f tp)) pos.line X.env = pure false := by rfl) : HT X b D Γ (.Assign [.Attribute (.Name n np) f tp] e pos :: rest) :=
  HT.step (ps_fld (pe_var hN hv hd hcd) pe_w hs) fun σ F H ⟨l, g, d⟩ => he σ F H l g d _ fun v F1 H1 l1 w1 ⟨q, dws, qs, hv1, hl1, nq, hq, hdl⟩ fr => by
    subst hv1 hl1
    have g1 := g.grow w1
    have d1 := d.grow g.t w1
    obtain ⟨u, l0, l2, h1, ⟨dx, ws, rfl, rfl, h4, h5⟩, h6, g2, n2, s2⟩ := g1.out d1.nd hΓ
    have ha := h6 a (List.mem_singleton.mpr rfl)
    have hal : H a ≠ none := g.t a ha
    have an : ∀ c ∈ q :: qs, c ≠ a := fun c hc z => hal (z ▸ (fr c hc).1)
    refine ⟨_, h1, a, C, dx, ws, rfl, h4, hc, hn, by rw [h5.len]; exact hz, ?_⟩
    refine k σ F1 _ (Sg.back (l' := a :: q :: qs) g2 n2 h1 ⟨d1.ef, Ex.mut d1.eb (d1.ob a ha), Ex.mut d1.e (d1.of a ha), d1.k, n2, fun c hc => d1.of c (s2 c hc).1, fun c hc => d1.ob c (s2 c hc).1⟩ (Ex.refl _) (fun c hc => upd_ne fun z => (s2 c hc).2 (List.mem_singleton.mpr z))
      ⟨dx, _, q, dws, qs, rfl, rfl, List.nodup_cons.mpr ⟨fun z => an a z rfl, nq⟩, upd_same, (FlsO.of h5).putH, by rw [upd_ne (an q List.mem_cons_self)]; exact hq, hdl.m (Ex.refl _) fun c hc => upd_ne (an c (List.mem_cons_of_mem _ hc))⟩ (fun c hc => ?_) (fun c hc => ?_) (fun c hc => ?_))
    · rcases List.mem_cons.mp hc with z | z
      · rw [z]; exact fun q => (s2 a q).2 (List.mem_singleton.mpr rfl)
      · intro q
        exact g.t c (s2 c q).1 (fr c z).1
    · rcases List.mem_cons.mp hc with z | z
      · rw [z]; exact d1.of a ha
      · exact (fr c z).2
    · rcases List.mem_cons.mp hc with z | z
      · rw [z]; exact d1.ob a ha
      · exact ex_none d.eb (fr c z).1
/-- a data field of it, read -/
theorem EV.fldO {np : Pos} (hc : Cls X.K C) (i : Nat) (hΓ : Γ[i]? = some (some (obD C a fo R kvs))) (hl : fo.lookup f = some (some (mk S y))) (hn : NoAttr X.K C f) (hN : X.N[i]? = some n := by rfl) (hv : Vis X.env.scope n := by first | exact Or.inl rfl | exact Or.inr (Or.inl rfl) | exact Or.inr (Or.inr rfl))
    (hd : (n == ("__debug__" : Str)) = false := by decide) (hcd : (n == ("__classdict__" : Str)) = false := by decide) (hb : attributeBase (.Name n np) f X.env (eval (.Name n np) X.env) = eval (.Name n np) X.env := by rfl) : EV X b Γ (.Attribute (.Name n np) f pos) (im S y) :=
  EV.of (pe_fld (pe_var hN hv hd hcd) hb) (EvS.mki fun σ F H l g d Q q => by
    obtain ⟨v, l1, h1, ⟨dx, ws, r, dws, qs, rfl, h2, h3, h4, h5, h6, h7⟩, _⟩ := g.get hΓ
    obtain ⟨u, k1, k2⟩ := h5.look hl
    exact ⟨_, h1, a, C, dx, ws, u, rfl, h4, hc, hn, k1, q u F H (Gw.refl d.e) k2⟩)
theorem EV.fldOb {np : Pos} (hc : Cls X.K C) (i : Nat) (hΓ : Γ[i]? = some (some (ob C a fl))) (hl : fl.lookup f = some (mk S y)) (hn : NoAttr X.K C f) (hN : X.N[i]? = some n := by rfl) (hv : Vis X.env.scope n := by first | exact Or.inl rfl | exact Or.inr (Or.inl rfl) | exact Or.inr (Or.inr rfl))
    (hd : (n == ("__debug__" : Str)) = false := by decide) (hcd : (n == ("__classdict__" : Str)) = false := by decide) (hb : attributeBase (.Name n np) f X.env (eval (.Name n np) X.env) = eval (.Name n np) X.env := by rfl) : EV X b Γ (.Attribute (.Name n np) f pos) (im S y) :=
  EV.of (pe_fld (pe_var hN hv hd hcd) hb) (EvS.mki fun σ F H l g d Q q => by
    obtain ⟨v, l1, h1, ⟨dx, ws, rfl, h2, h3, h4⟩, _⟩ := g.get hΓ
    have k := h4.look (f := f)
    rw [hl] at k
    obtain ⟨u, k1, k2⟩ := k
    exact ⟨_, h1, a, C, dx, ws, u, rfl, h3, hc, hn, k1, q u F H (Gw.refl d.e) k2⟩)
/-- self.f = e, data -/
theorem HT.fldO (hc : Cls X.K C) (i : Nat) (hΓ : Γ[i]? = some (some (obD C a fo R kvs))) (he : EV X b Γ e (im S y)) (hn : NoAttr X.K C f) (hz : fo.length < 1000) (k : HT X b D (Γ.set i (some (obD C a (putO f (some (mk S y)) fo) R kvs))) rest) (hN : X.N[i]? = some n := by rfl) (hv : Vis X.env.scope n := by first | exact Or.inl rfl | exact Or.inr (Or.inl rfl) | exact Or.inr (Or.inr rfl))
    (hd : (n == ("__debug__" : Str)) = false := by decide) (hcd : (n == ("__classdict__" : Str)) = false := by decide) (hs : swapsWith e (some (.Attribute (.Name n np) f tp)) pos.line X.env = pure false := by rfl) : HT X b D Γ (.Assign [.Attribute (.Name n np) f tp] e pos :: rest) :=
  HT.step (ps_fld (pe_var hN hv hd hcd) pe_w hs) fun σ F H ⟨l, g, d⟩ => he σ F H l g d _ fun v F1 H1 l1 w1 p1 _ => by
    have g1 := g.grow w1
    have d1 := d.grow g.t w1
    obtain ⟨u, l2, h1, ⟨dx, ws, q, dws, qs, rfl, rfl, h3, h4, h5, h6, h7⟩, g6, g7⟩ := g1.mod d1.nd hΓ
    have ha := g6 a List.mem_cons_self
    have an : ∀ c ∈ q :: qs, c ≠ a := fun c hc z => (List.nodup_cons.mp h3).1 (z ▸ hc)
    refine ⟨_, h1, a, C, dx, ws, rfl, h4, hc, hn, by rw [h5.len]; exact hz, k σ F1 _ ⟨l, g7 _ _ (fun c hc => upd_ne fun z => hc (by rw [z]; exact List.mem_cons_self)) ⟨dx, _, q, dws, qs, rfl, rfl, h3, upd_same, h5.putD (x := mk S y) p1.2, by rw [upd_ne (an q List.mem_cons_self)]; exact h6, h7.m (Ex.refl _) fun c hc => upd_ne (an c (List.mem_cons_of_mem _ hc))⟩, d1.ef, Ex.mut d1.eb (d1.ob a ha), Ex.mut d1.e (d1.of a ha), d1.k, d1.nd, d1.of, d1.ob⟩⟩
/-- self.f[key].append(e) -/
theorem HT.appDL {fp kp : Pos} {kx : Expr} {p : Str} {γ : Type} {T : Rl γ} {kd : γ} {z : α} (hc : Cls X.K C) (hu : X.A.units + 1 < cLine) (i : Nat) (hΓ : Γ[i]? = some (some (obD C a fo R kvs))) (hl : fo.lookup f = some none) (hn : NoAttr X.K C f) (hk : EV X b Γ kx (im T kd)) (hx : ∀ F v, T.r F v kd → v = kV (Sum.inr p)) (hp : p ∈ kvs.map (·.1)) (hnk : (kvs.map (·.1)).Nodup) (hsz : ∀ q ∈ kvs, q.2.length < 100000) (he : EV X b Γ e (im R z))
    (k : HT X b D (Γ.set i (some (obD C a fo R (kvs.map fun q => if q.1 = p then (q.1, q.2 ++ [z]) else q)))) rest) (hN : X.N[i]? = some n := by rfl) (hv : Vis X.env.scope n := by first | exact Or.inl rfl | exact Or.inr (Or.inl rfl) | exact Or.inr (Or.inr rfl))
    (hd : (n == ("__debug__" : Str)) = false := by decide) (hcd : (n == ("__classdict__" : Str)) = false := by decide) (hse : starEach [e] X.env = (false, eval e X.env) :: starEach [] X.env := by rfl)
    (hb : attributeBase (.Name n np) f X.env (eval (.Name n np) X.env) = eval (.Name n np) X.env := by rfl) (hns : NoSl kx := by exact (fun _ _ => rfl))
    (hbm : ∀ {t : TE} {ta : TA}, PE X (.Subscript (.Attribute (.Name n np) f fp) kx kp) t → PA X [e] ta → PE X (.Call (.Attribute (.Subscript (.Attribute (.Name n np) f fp) kx kp) "append" apos) [e] [] cpos) (tBM X.K "list" rAppend t ta) := by exact fun h1 h2 => pe_bm PySem.F.plainAttrs_list PySem.F.slot_list_append PySem.F.type_list_append mt_append h1 h2)
    (hs : swapsWith (.Call (.Attribute (.Subscript (.Attribute (.Name n np) f fp) kx kp) "append" apos) [e] [] cpos) none pos.line X.env = pure false := by rfl) :
    HT X b D Γ (.Expr (.Call (.Attribute (.Subscript (.Attribute (.Name n np) f fp) kx kp) "append" apos) [e] [] cpos) pos :: rest) :=
  HT.step (ps_expr (hbm (pe_dget hu (pe_fld (pe_var hN hv hd hcd) hb) pe_w hns) (pa_cons pe_w pa_nil hse)) hs) fun σ F H ⟨l, g, d⟩ => by
    obtain ⟨v0, l0, h1, ⟨dx, ws, q, dws, qs, rfl, rfl, h3, h4, h5, h6, h7⟩, g6⟩ := g.get hΓ
    obtain ⟨u0, k1, k2⟩ := h5.look hl
    have k2 : u0 = V.ref q := k2
    refine ⟨_, h1, a, C, dx, ws, u0, rfl, h4, hc, hn, k1, hk σ F H l g d _ fun v F1 H1 l1 w1 p1 _ => ?_⟩
    have g1 := g.grow w1
    have d1 := d.grow g.t w1
    have nqs : qs.Nodup := (List.nodup_cons.mp (List.nodup_cons.mp h3).2).2
    have keep : ∀ {c : Addr} {o : HO}, H c = some o → H1 c = some o := fun {c o} ho => w1.h c o ho
    obtain ⟨r, xs, as, e1, e2, e3, e4, e5, e6⟩ := h7.get hp hnk nqs
    refine ⟨q, .ref r, k2, .inl ⟨dws, Sum.inr p, .inl (keep h6), hx F1 v p1.2, e1.symm⟩, Or.inl ⟨rfl, xs, SqL.of (keep e3)⟩, he σ F1 H1 l g1 d1 _ fun u F2 H2 l2 w2 p2 _ => ?_⟩
    have w12 := w1.trans w2
    have g2 := g1.grow w2
    have d2 := d1.grow g1.t w2
    obtain ⟨v2, l3, j1, ⟨dx', ws', q', dws', qs', jv, rfl, j3, j4, j5, j6, j7⟩, j8, j9⟩ := g2.mod d2.nd hΓ
    rw [h1] at j1
    cases j1
    have x1 : some (HO.ins C dx' ws') = some (HO.ins C dx ws) := by rw [← j4]; exact w12.h a _ h4
    cases x1
    obtain ⟨u1, m1, m2⟩ := j5.look hl
    have m2 : u1 = V.ref q' := m2
    rw [k1] at m1
    cases m1
    rw [k2] at m2
    cases m2
    have x2 : some (HO.dK dws') = some (HO.dK dws) := by rw [← j6]; exact w12.h q _ h6
    cases x2
    have nqs' : qs'.Nodup := (List.nodup_cons.mp (List.nodup_cons.mp j3).2).2
    obtain ⟨r', xs', as', b1, b2, b3, b4, b5, b6⟩ := j7.get hp hnk nqs'
    rw [e1] at b1
    cases b1
    have hrl : r ∈ a :: q :: qs' := List.mem_cons_of_mem _ (List.mem_cons_of_mem _ b2)
    have ra : a ≠ r := fun z => (List.nodup_cons.mp j3).1 (by rw [z]; exact List.mem_cons_of_mem _ b2)
    have rq : q ≠ r := fun z => (List.nodup_cons.mp (List.nodup_cons.mp j3).2).1 (by rw [z]; exact b2)
    refine ⟨r, xs', u, rfl, rfl, b3, sz_lt (by rw [b4.len]; exact hsz _ b5), ?_⟩
    have hr := j8 r hrl
    exact k σ F2 _ ⟨l, j9 _ _ (fun c hc => upd_ne fun z => hc (by rw [z]; exact hrl)) ⟨dx, ws, q, dws, qs', rfl, rfl, j3, by rw [upd_ne ra]; exact j4, j5, by rw [upd_ne rq]; exact j6, b6 z u p2.2⟩, d2.ef, Ex.mut d2.eb (d2.ob r hr), Ex.mut d2.e (d2.of r hr), d2.k, d2.nd, d2.of, d2.ob⟩
end
end Lg

namespace Lg
open PySem L2 Evl PyProof.Rows
section
variable {X : Cx} {pins : List (Addr × Obj)} {σ : L2.St} {s : Shared} {α : Type} {R : Rl α}
theorem lockAll {ws : List (Key × V)} {kvs : List (Str × List α)} {qs : List Addr} : ∀ {F H : Hp}, DL R F H ws kvs qs → qs.Nodup → (∀ r ∈ qs, F r = none) → Inv X pins σ H s →
    ∃ F' H', Inv X pins σ H' s ∧ Ex F F' ∧ (∀ c, c ∉ qs → F' c = F c ∧ H' c = H c) ∧ (∀ c ∈ qs, ∀ u, F' c = some u → H' c = some u) ∧ KvR ((rLK R).r F') ws (kvS kvs) := by
  induction qs generalizing ws kvs with
  | nil =>
    intro F H h _ _ I
    cases h
    exact ⟨F, H, I, Ex.refl F, fun c _ => ⟨rfl, rfl⟩, fun c hc => (nomatch hc), .nil⟩
  | cons r qs ih =>
    intro F H h nq hf I
    cases h with
    | @cons n _ xs as ws kvs _ h1 h2 t =>
      obtain ⟨q1, q2⟩ := List.nodup_cons.mp nq
      obtain ⟨od, I1⟩ := I.lock h1 trivial
      have fr := hf r List.mem_cons_self
      have e1 : Ex F (upd F r (.frz od (.lst xs))) := Ex.new fr
      obtain ⟨F', H', I2, e2, k1, k2, k3⟩ := ih (t.m e1 (H' := upd H r (.frz od (.lst xs))) fun c hc => upd_ne fun z => q1 (z ▸ hc)) q2 (fun c hc => by rw [upd_ne fun (z : c = r) => q1 (by rw [← z]; exact hc)]; exact hf c (List.mem_cons_of_mem _ hc)) I1
      have er : F' r = some (.frz od (.lst xs)) := by rw [(k1 r q1).1, upd_same]
      refine ⟨F', H', I2, e1.trans e2, fun c hc => ?_, fun c hc u hu => ?_, .cons (v := .ref r) (y := as) ⟨r, od, xs, rfl, er, h2.imp fun _ _ => R.m (e1.trans e2)⟩ k3⟩
      · have c1 : c ≠ r := fun z => hc (z ▸ List.mem_cons_self)
        have c2 := k1 c fun z => hc (List.mem_cons_of_mem _ z)
        rw [c2.1, c2.2, upd_ne c1, upd_ne c1]
        exact ⟨rfl, rfl⟩
      · rcases List.mem_cons.mp hc with z | z
        · rw [z, er] at hu
          rw [z, (k1 r q1).2, upd_same]; exact hu
        · exact k2 c z u hu
end
section
variable {X : Cx} {b : Bs} {D : EndC} {Γ : Ctx} {α : Type} {R : Rl α} {C a : Addr} {fo : List (Str × Option Im)} {kvs : List (Str × List α)} {sts : List Stmt}
/-- .. made data -/
theorem HT.lkO (i : Nat) (hΓ : Γ[i]? = some (some (obD C a fo R kvs))) (k : HT X b D (Γ.set i (some (ob C a (fill (mk (rDK (rLK R)) (kvS kvs)) fo)))) sts) : HT X b D Γ sts := fun σ F H ⟨l, g, d⟩ pins s I => by
  obtain ⟨v, l1, l2, h1, ⟨dx, ws, q, dws, qs, rfl, rfl, h3, h4, h5, h6, h7⟩, hin, g2, n2, s2⟩ := g.out d.nd hΓ
  obtain ⟨na, h3'⟩ := List.nodup_cons.mp h3
  obtain ⟨nq, nqs⟩ := List.nodup_cons.mp h3'
  have inq : ∀ c ∈ qs, c ∈ a :: q :: qs := fun c hc => List.mem_cons_of_mem _ (List.mem_cons_of_mem _ hc)
  have iq : q ∈ a :: q :: qs := List.mem_cons_of_mem _ List.mem_cons_self
  obtain ⟨F1, H1, I1, e1, k1, k2, k3⟩ := lockAll h7 nqs (fun r hr => d.of r (hin r (inq r hr))) I
  have hq1 : H1 q = some (.dK dws) := by rw [(k1 q nq).2]; exact h6
  obtain ⟨od, I2⟩ := I1.lock hq1 trivial
  have fq : F1 q = none := by rw [(k1 q nq).1]; exact d.of q (hin q iq)
  have e2 : Ex F1 (upd F1 q (.frz od (.dK dws))) := Ex.new fq
  have oth : ∀ c, c ≠ q → c ∉ qs → (upd F1 q (.frz od (.dK dws))) c = F c ∧ (upd H1 q (.frz od (.dK dws))) c = H c := fun c c1 c2 => by
    rw [upd_ne c1, upd_ne c1]; exact k1 c c2
  have aq : a ≠ q := fun z => na (by rw [z]; exact List.mem_cons_self)
  have aqs : a ∉ qs := fun z => na (List.mem_cons_of_mem _ z)
  have l2q : ∀ c ∈ l2, c ≠ q ∧ c ∉ qs := fun c hc => ⟨fun z => (s2 c hc).2 (by rw [z]; exact iq), fun z => (s2 c hc).2 (inq c z)⟩
  have bq : ∀ {c}, b.B c ≠ none → c ≠ q ∧ c ∉ qs := fun {c} hc => ⟨fun z => hc (by rw [z]; exact d.ob q (hin q iq)), fun z => hc (d.ob c (hin c (inq c z)))⟩
  refine k σ (upd F1 q (.frz od (.dK dws))) (upd H1 q (.frz od (.dK dws))) (Sg.back (l' := [a]) g2 n2 h1 ⟨d.ef.trans (e1.trans e2), fun c u hu => ?_, fun c u hu => ?_, fun c c1 c2 => ?_, n2, fun c hc => ?_, fun c hc => d.ob c (s2 c hc).1⟩ (e1.trans e2) (fun c hc => (oth c (l2q c hc).1 (l2q c hc).2).2)
    ⟨dx, ws, rfl, rfl, by rw [(oth a aq aqs).2]; exact h4, (h5.m (e1.trans e2)).fill (x := mk (rDK (rLK R)) (kvS kvs)) ⟨q, od, dws, rfl, upd_same, k3.imp fun _ _ => (rLK R).m e2⟩⟩ (fun c hc => ?_) (fun c hc => ?_) (fun c hc => ?_)) pins s I2
  · have z := bq (c := c) (by rw [hu]; exact fun z => nomatch z)
    rw [(oth c z.1 z.2).2]; exact d.eb c u hu
  · by_cases z : c = q
    · rw [z, upd_same] at hu ⊢; exact hu
    · by_cases z2 : c ∈ qs
      · rw [upd_ne z] at hu ⊢; exact k2 c z2 u hu
      · have o := oth c z z2
        rw [o.1] at hu; rw [o.2]; exact d.e c u hu
  · have z := bq (c := c) c2
    rw [(oth c z.1 z.2).1]; exact d.k c c1 c2
  · rw [(oth c (l2q c hc).1 (l2q c hc).2).1]; exact d.of c (s2 c hc).1
  · rw [List.mem_singleton.mp hc]; exact fun z => (s2 a z).2 List.mem_cons_self
  · rw [List.mem_singleton.mp hc, (oth a aq aqs).1]; exact d.of a (hin a List.mem_cons_self)
  · rw [List.mem_singleton.mp hc]; exact d.ob a (hin a List.mem_cons_self)
/-- self.f = e where e never comes -/
theorem HT.fldNo {f n : Str} {e : Expr} {pos np tp : Pos} {rest : List Stmt} (i : Nat) (he : EV X b Γ e noS) (hN : X.N[i]? = some n := by rfl) (hv : Vis X.env.scope n := by first | exact Or.inl rfl | exact Or.inr (Or.inl rfl) | exact Or.inr (Or.inr rfl))
    (hd : (n == ("__debug__" : Str)) = false := by decide) (hcd : (n == ("__classdict__" : Str)) = false := by decide) (hs : swapsWith e (some (.Attribute (.Name n np) f tp)) pos.line X.env = pure false := by rfl) : HT X b D Γ (.Assign [.Attribute (.Name n np) f tp] e pos :: rest) :=
  HT.step (ps_fld (pe_var hN hv hd hcd) pe_w hs) fun σ F H ⟨l, g, d⟩ => he σ F H l g d _ fun v F1 H1 l1 w1 p1 _ => p1.elim
end
end Lg

namespace Lg
open PySem L2 Evl PyProof.Rows
section
variable {X : Cx} {b : Bs} {D : EndC} {Γ : Ctx} {α : Type} {R : Rl α} {L : Rl (List α)} {f : α → V} {x : α} {as bs : List α} {o e : Expr} {es : List Expr} {pos p p1 p2 apos cpos : Pos} {rest : List Stmt} {c : Bool}
/-- isinstance(e, bool), e a bool -/
theorem EV.isBool (he : EV X b Γ e (im rB c)) (hm : X.mg "isinstance" = none) (hm2 : X.mg "bool" = none) (hg : Gl X "isinstance" := by rfl) (hg2 : Gl X "bool" := by rfl) (hse : starEach [e, .Name "bool" p2] X.env = (false, eval e X.env) :: starEach [.Name "bool" p2] X.env := by rfl) (hpl : (backTo pos (starEach [.Name "bool" p2] X.env)).any (·.1) = false := by rfl) : EV X b Γ (.Call (.Name "isinstance" p1) [e, .Name "bool" p2] [] pos) (im rB true) :=
  EV.of (pe_callB call_isi hg hm (by decide +kernel) (pa_cons pe_w (pa_cons (pe_bltn (v := .ty "bool") (u := .type "bool") hg2 hm2 (by decide +kernel) rfl) pa_nil) hse) (he := hse) (hpl := hpl)) (EvS.mki fun σ F H l g d Q q => he σ F H l g d _ fun v F1 H1 l1 w p _ => by
    have hv : v = V.bl c := p.2
    subst hv
    exact ⟨.bl c, .ty "bool", .type "bool", .type "bool", true, rfl, .ty "bool", .base (.bl c), kit_ty (by decide +kernel), q _ F1 H1 w rfl⟩)
/-- l.index(x), x there -/
theorem EV.index [DecidableEq α] (hF : Flat R f) (hL : Lis L R) {j : Nat} (ho : EV X b Γ o (im L as)) (he : EV X b Γ e (im R x)) (hj : as[j]? = some x) (hno : ∀ m, m < j → as[m]? ≠ some x) (hse : starEach [e] X.env = (false, eval e X.env) :: starEach [] X.env := by rfl)
    (hbm : ∀ {t : TE} {ta : TA}, PE X o t → PA X [e] ta → PE X (.Call (.Attribute o "index" apos) [e] [] cpos) (tBM X.K "list" (rIndex X.K) t ta) := by exact fun h1 h2 => pe_bm PySem.F.plainAttrs_list PySem.F.slot_list_index PySem.F.type_list_index mt_index h1 h2) : EV X b Γ (.Call (.Attribute o "index" apos) [e] [] cpos) (im rI (j : Int)) :=
  EV.of (hbm pe_w (pa_cons pe_w pa_nil hse)) (EvS.mki fun σ F H l g d Q q => ho σ F H l g d _ fun v F1 H1 l1 w1 ⟨_, h⟩ _ => by
    obtain ⟨a, xs, rfl, h2, h3⟩ := hL h
    refine ⟨Or.inl ⟨rfl, xs, sq_ex w1.e h2⟩, he σ F1 H1 l (g.grow w1) (d.grow g.t w1) _ fun u F2 H2 l2 w2 p2 _ => ?_⟩
    have hxs := hF.all h3
    subst hxs
    refine ⟨a, _, u, j, f x, rfl, rfl, sq_ex (w1.e.trans w2.h) h2, by rw [hF.u p2.2]; exact hF.fl _, hF.flat _, by rw [List.getElem?_map, hj]; rfl, by rw [hF.u p2.2]; exact (hF.eq x x).mpr rfl, fun m z' hm hz => ?_, q _ F2 H2 (w1.trans w2) rfl⟩
    rw [List.getElem?_map] at hz
    obtain ⟨y, hy, rfl⟩ := Option.map_eq_some_iff.mp hz
    rw [hF.u p2.2]
    exact Bool.eq_false_iff.mpr fun q => hno m hm (by rw [hy, (hF.eq y x).mp q]))
/-- (a list that comes new).append(e) -/
theorem HT.appTmp {y : α} (ho : EV X b Γ o (ow R as)) (he : EV X b Γ e (im R y)) (hz : as.length < 100000) (k : HT X b D Γ rest) (hse : starEach [e] X.env = (false, eval e X.env) :: starEach [] X.env := by rfl)
    (hbm : ∀ {t : TE} {ta : TA}, PE X o t → PA X [e] ta → PE X (.Call (.Attribute o "append" apos) [e] [] cpos) (tBM X.K "list" rAppend t ta) := by exact fun h1 h2 => pe_bm PySem.F.plainAttrs_list PySem.F.slot_list_append PySem.F.type_list_append mt_append h1 h2)
    (hs : swapsWith (.Call (.Attribute o "append" apos) [e] [] cpos) none pos.line X.env = pure false := by rfl) : HT X b D Γ (.Expr (.Call (.Attribute o "append" apos) [e] [] cpos) pos :: rest) :=
  HT.step (ps_expr (hbm pe_w (pa_cons pe_w pa_nil hse)) hs) fun σ F H ⟨l, g, d⟩ => ho σ F H l g d _ fun v F1 H1 l1 w1 ⟨r, xs, hv, hl, hr, hxs⟩ fr => by
    subst hv hl
    obtain ⟨f1, f2⟩ := fr r (List.mem_singleton.mpr rfl)
    have g1 := g.grow w1
    have d1 := d.grow g.t w1
    refine ⟨Or.inl ⟨rfl, xs, SqL.of hr⟩, he σ F1 H1 l g1 d1 _ fun u F2 H2 l2 w2 p2 _ => ?_⟩
    have hr2 := w2.h r _ hr
    have fr2 : F2 r = none := w2.k r f2 (by rw [hr]; exact fun z => nomatch z)
    have g2 := g1.grow w2
    have d2 := d1.grow g1.t w2
    have rl : r ∉ l := fun z => g.t r z f1
    have br : b.B r = none := ex_none d.eb f1
    refine ⟨r, xs, u, rfl, rfl, hr2, sz_lt (by rw [hxs.len]; exact hz), ?_⟩
    exact k σ F2 _ ⟨l, g2.m (Ex.refl _) (fun c hc => upd_ne fun z => rl (z ▸ hc)), d2.ef, Ex.mut d2.eb br, Ex.mut d2.e fr2, d2.k, d2.nd, d2.of, d2.ob⟩
theorem EV.lendNo (i : Nat) (hΓ : Γ[i]? = some (some (ow R as))) (h : EV X b (Γ.set i (some (im (rL R) as))) e noS) : EV X b Γ e noS := fun σ F H l g d Q q => by
  obtain ⟨p, xs, l2, fp, hp, g2, d2⟩ := Lg.lend i hΓ g d
  exact h σ _ H l2 g2 d2 Q fun v F' H' l' w e1 _ => e1.elim
end
end Lg

/-! While an exception is handled: texts walked, keys walked, comprehensions, calls. -/
namespace Lg
open PySem PySem.Spec L2 Evl PyProof.Rows HotX L2H
section
variable {prog : Program} {w : World} {A : Around} {E : Value → Shared → Prop} {s : Shared} {x1 it d : Addr}
theorem HotAt.ext {h h' : Heap} (hot : HotAt A x1 h) (hne : x1 ≠ it) (e : Heap.ExtBut it h h') : HotAt A x1 h' := by
  obtain ⟨hh, o, vs, h1, h2, h3⟩ := hot
  exact ⟨hh, o, vs, e x1 o hne h1, h2, h3⟩
/-- a StopIteration is raised there -/
theorem stop_hot {α : Type} {Q : α → Shared → Prop} (hot : HotAt A x1 s.heap) (hE : ∀ h' a, (∀ b o, s.heap.get? b = some o → h'.get? b = some o) → (∃ o, h'.get? a = some o ∧ o.cls = .type "StopIteration") → E (.ref a) { s with heap := h' }) :
    wpAny (model prog w) A (newExc (.type "StopIteration") [] >>= fun e => (raiseNew e : Sem α)) Q E s := by
  obtain ⟨hh, o, vs, h1, h2, h3⟩ := hot
  have k1 := Heap.lt_size h1
  simp only [newExc, newTuple]
  refine wpAny_bind (wpAny_bind (wpAny_newObj_type (wpAny_bind (m := firstArgMember _ _) (wpAny_of_eq (a := Value.none) (by first | rfl | (simp only [firstArgMember]; rfl)) (wpAny_newObj_type ?_ (by size_fits)))) (by size_fits)))
  refine raiseNew_hot ⟨hh, o, vs, Heap.get?_push_of_some _ (Heap.get?_push_of_some _ h1), h2, h3⟩ (fun z => ?_) (Heap.get?_push_size _ rfl) rfl (by first | (simp; done) | (simp; omega)) (hE _ _ (fun b o e => ?_) ⟨_, Heap.get?_update_self _ (Heap.get?_push_size _ rfl) rfl, rfl⟩)
  · have := Heap.lt_size (Heap.get?_push_of_some (h := s.heap) { cls := .type "tuple", data := .seq ([] : List Value).toArray } h1)
    rw [z] at this
    exact absurd this (Nat.lt_irrefl _)
  · have k2 := Heap.get?_push_of_some (h := s.heap) { cls := .type "tuple", data := .seq ([] : List Value).toArray } e
    rw [Heap.get?_update_other _ _ (fun z => by have := Heap.lt_size k2; rw [← z] at this; exact absurd this (Nat.lt_irrefl _))]
    exact Heap.get?_push_of_some _ k2
theorem ascii_end_hot {x : Str} {t : Tok} {i : Nat} {Q : Option Value → Shared → Prop} (hot : HotAt A x1 s.heap) (ne : x1 ≠ it) (hi : s.heap.IsStrIter it "str_ascii_iterator" x t i) (hx : x.cps[i]? = none) (k : ∀ h', Heap.ExtBut it s.heap h' → Q none { s with heap := h' }) : wpAny (model prog w) A (pyNext (.ref it)) Q E s := by
  obtain ⟨o, g1, g2, g3⟩ := id hi
  unfold pyNext
  refine wpAny_bind (wpAny_attempt (wpAny_callSpecial?_slot (name := Str.ofString "__next__") hi.typeIs F.slot_str_ascii_iterator_next (wpAny_call_entry F.slot_str_ascii_iterator_next hi.typeIs F.entry_str_ascii_iterator_next (show wpAny _ _ (field (.ref it) 0 >>= _) _ _ s from wpAny_bind (wpAny_field g1 g3 (x := .str x t) rfl (show wpAny _ _ (field (.ref it) 1 >>= _) _ _ s from wpAny_bind (wpAny_field g1 g3 (x := .int i 0) rfl ?_)))) (F.args_str_ascii_iterator_next_1 _))))
  simp only [Int.toNat_natCast, hx]
  have hot2 : HotAt A x1 (s.heap.update it (Obj.mapFields (·.setIfInBounds 0 Value.none))) := HotAt.ext hot ne (Heap.SameBut.update ..).extBut
  refine wpAny_bind (wpAny_rule (wpAny_bind (wpAny_setField g1 g3 (by simp) (wpAny_bind (wpAny_letGo (stop_hot (x1 := x1) hot2 fun h' a kk hs => ?_))))))
  obtain ⟨oa, e1, e2⟩ := hs
  refine wpAny_bind (wpAny_isInstance (T := "StopIteration") (b := true) ⟨oa, e1, e2⟩ isSubtype_stop (wpAny_pure (k _ fun b ob hb e => kk b ob ?_)))
  exact (Heap.SameBut.update ..).extBut b ob hb e
theorem wide_end_hot {x : Str} {t : Tok} {i : Nat} {Q : Option Value → Shared → Prop} (hot : HotAt A x1 s.heap) (ne : x1 ≠ it) (hi : s.heap.IsStrIter it "str_iterator" x t i) (hx : x.cps[i]? = none) (k : ∀ h', Heap.ExtBut it s.heap h' → Q none { s with heap := h' }) : wpAny (model prog w) A (pyNext (.ref it)) Q E s := by
  obtain ⟨o, g1, g2, g3⟩ := id hi
  unfold pyNext
  refine wpAny_bind (wpAny_attempt (wpAny_callSpecial?_slot (name := Str.ofString "__next__") hi.typeIs F.slot_str_iterator_next (wpAny_call_entry F.slot_str_iterator_next hi.typeIs F.entry_str_iterator_next (show wpAny _ _ (field (.ref it) 0 >>= _) _ _ s from wpAny_bind (wpAny_field g1 g3 (x := .str x t) rfl (show wpAny _ _ (field (.ref it) 1 >>= _) _ _ s from wpAny_bind (wpAny_field g1 g3 (x := .int i 0) rfl ?_)))) (F.args_str_iterator_next_1 _))))
  simp only [Int.toNat_natCast, hx]
  have hot2 : HotAt A x1 (s.heap.update it (Obj.mapFields (·.setIfInBounds 0 Value.none))) := HotAt.ext hot ne (Heap.SameBut.update ..).extBut
  refine wpAny_bind (wpAny_rule (wpAny_bind (wpAny_setField g1 g3 (by simp) (wpAny_bind (wpAny_letGo (stop_hot (x1 := x1) hot2 fun h' a kk hs => ?_))))))
  obtain ⟨oa, e1, e2⟩ := hs
  refine wpAny_bind (wpAny_isInstance (T := "StopIteration") (b := true) ⟨oa, e1, e2⟩ isSubtype_stop (wpAny_pure (k _ fun b ob hb e => kk b ob ?_)))
  exact (Heap.SameBut.update ..).extBut b ob hb e
theorem keys_end_hot {K : Type} [DecidableEq K] {knd : KeyKind prog w K} {i ep : Nat} {kvs : List (K × Value)} {Q : Option Value → Shared → Prop} (hot : HotAt A x1 s.heap) (ne : x1 ≠ it) (hi : s.heap.IsKeyIter it d i kvs.length ep) (hm : s.heap.DictAt knd d kvs ep) (hx : kvs.length ≤ i) (k : ∀ h', Heap.ExtBut it s.heap h' → Q none { s with heap := h' }) :
    wpAny (model prog w) A (pyNext (.ref it)) Q E s := by
  obtain ⟨o, g1, g2, g3⟩ := id hi
  obtain ⟨od, es, e1, e2, e3, e4, e5, e6⟩ := id hm
  have sz : es.size = kvs.length := by rw [← e5.length]; simp
  have hge : es.size ≤ i := by omega
  have own : Builtin.Dict_items.ownsTuple "dict_keyiterator" = false := by decide
  unfold pyNext
  refine wpAny_bind (wpAny_attempt (wpAny_callSpecial?_slot (name := Str.ofString "__next__") hi.typeIs F.slot_dict_keyiterator_next (wpAny_call_entry F.slot_dict_keyiterator_next hi.typeIs F.entry_dict_keyiterator_next (wpAny_bind (wpAny_pure (wpAny_bind (wpAny_bind ?_)))) (F.args_dict_keyiterator_next_1 _))))
  first | refine wpAny_bind (wpAny_typeNameOfWhole_keyiter hi.typeIs (wpAny_pure (wpAny_bind (wpAny_fieldsOf g1 g3 ?_)))) | refine wpAny_bind (wpAny_typeNameOf_keyiter hi.typeIs (wpAny_pure (wpAny_bind (wpAny_fieldsOf g1 g3 ?_))))
  simp only [own, Bool.false_eq_true, if_false]
  show wpAny _ _ (if (Value.ref d == Value.none) = true then _ else _) _ _ s
  have dn : (Value.ref d == Value.none) = false := rfl
  rw [dn, if_neg Bool.false_ne_true]
  refine wpAny_bind (wpAny_pure (wpAny_bind (wpAny_dictEntries e1 e3 ?_)))
  rw [if_neg (by rw [sz]; simp)]
  refine wpAny_bind (wpAny_pure (wpAny_bind (wpAny_dictEpoch e1 e3 ?_)))
  rw [if_neg (by simp)]
  refine wpAny_pure ?_
  simp only [show ¬ ((i : Int) < 0) by omega, if_false, Int.toNat_natCast, Array.getElem?_eq_none hge]
  have hot2 : HotAt A x1 (s.heap.update it (Obj.mapFields (·.setIfInBounds 0 Value.none))) := HotAt.ext hot ne (Heap.SameBut.update ..).extBut
  refine wpAny_bind ?_
  first | refine wpAny_bind (wpAny_typeNameOfWhole_keyiter hi.typeIs (wpAny_pure (show wpAny _ _ (setField (.ref it) 0 .none >>= _) _ _ s from wpAny_bind (wpAny_setField g1 g3 (by simp) ?_)))) | refine wpAny_bind (wpAny_typeNameOf_keyiter hi.typeIs (wpAny_pure (show wpAny _ _ (setField (.ref it) 0 .none >>= _) _ _ s from wpAny_bind (wpAny_setField g1 g3 (by simp) ?_))))
  refine stop_hot (x1 := x1) hot2 fun h' a kk hs => ?_
  obtain ⟨oa, q1, q2⟩ := hs
  refine wpAny_bind (wpAny_isInstance (T := "StopIteration") (b := true) ⟨oa, q1, q2⟩ isSubtype_stop (wpAny_pure (k _ fun b ob hb e => kk b ob ?_)))
  exact (Heap.SameBut.update ..).extBut b ob hb e
theorem walks_keys_hot {K : Type} [DecidableEq K] {knd : KeyKind prog w K} {kvs : List (K × Value)} {ep : Nat} (hne : d ≠ it) (ne : x1 ≠ it) : Walks prog w A it [it, d, x1] [it] kvs.length (fun i v => ∃ k x, kvs[i]? = some (k, x) ∧ knd.is k v = true) (fun i h => (h.IsKeyIter it d i kvs.length ep ∧ h.DictAt knd d kvs ep) ∧ HotAt A x1 h) := by
  refine ⟨fun b hb => ?_, fun i h h' st k => ?_, fun i s Q E hi st k => ?_, fun s Q E st k => ?_, fun i s Q E st q => wpAny_pyIter_keyiter st.1.1 q⟩
  · rw [List.mem_singleton.mp hb]; exact List.mem_cons_self
  · obtain ⟨⟨a1, a2⟩, hh, o, vs, a3, a4, a5⟩ := st
    exact ⟨⟨a1.at fun o e => k it (by simp) o e, a2.at' fun o e => k d (by simp) o e⟩, hh, o, vs, k x1 (by simp) o a3, a4, a5⟩
  · obtain ⟨⟨k0, x0⟩, hx⟩ : ∃ p, kvs[i]? = some p := ⟨kvs[i], List.getElem?_eq_getElem hi⟩
    refine wpAny_pyNext_dict_item st.1.1 st.1.2 hx fun key h' hk hit' sb => ?_
    exact k key h' s.toks ⟨k0, x0, hx, hk⟩ ⟨⟨hit', st.1.2.extBut sb.extBut hne⟩, HotAt.ext st.2 ne sb.extBut⟩ fun b o hb e => sb.extBut b o (fun z => hb (List.mem_singleton.mpr z)) e
  · exact keys_end_hot st.2 ne st.1.1 st.1.2 (Nat.le_refl _) fun h' eb => k h' s.toks fun b o hb e => eb b o (fun z => hb (List.mem_singleton.mpr z)) e
/-- list(d), d a dict -/
theorem list_dict_hot {K : Type} [DecidableEq K] {knd : KeyKind prog w K} {kvs : List (K × Value)} {ep : Nat} {Q : Value → Shared → Prop} (hot : HotAt A x1 s.heap) (lo : (d == sysModules) = false) (hm : s.heap.DictAt knd d kvs ep) (hn : kvs.length ≤ sizeLine)
    (k : ∀ h' tk acc c, (∀ b o, s.heap.get? b = some o → h'.get? b = some o) → h'.get? s.heap.objs.size = some { cls := .type "list", dict := none, data := .seq acc c, slots := #[] } → ItemsOf (fun i v => ∃ k x, kvs[i]? = some (k, x) ∧ knd.is k v = true) acc kvs.length → Q (.ref s.heap.objs.size) { s with heap := h', toks := tk }) :
    wpAny (model prog w) A (call (.type "list") [.ref d]) Q E s := by
  generalize eS : s.heap.objs.size = S at k
  have hdS : d ≠ S := fun z => by have := hm.lt_size; rw [z, eS] at this; exact absurd this (Nat.lt_irrefl _)
  have hxS : x1 ≠ S := fun z => by
    obtain ⟨_, o, _, h1, _⟩ := hot
    have := Heap.lt_size h1
    rw [z, eS] at this; exact absurd this (Nat.lt_irrefl _)
  refine callType_codes (Q₁ := fun obj s₁ => obj = .ref S ∧ s₁ = { s with heap := s.heap.push { cls := .type "list", data := .seq #[] } }) PySem.F.called_list (PySem.F.typeCall_list_1 _) PySem.F.entry_list_init (code_list_new _ ⟨by rw [eS], rfl⟩) fun obj s₁ h₁ => ?_
  obtain ⟨rfl, rfl⟩ := h₁
  have hS : (s.heap.push { cls := .type "list", data := .seq #[] }).get? S = some { cls := .type "list", data := .seq #[] } := by rw [← eS]; exact Heap.get?_push_size _ rfl
  refine ⟨⟨_, hS, rfl⟩, PySem.F.args_list_init_2 _ _, ?_⟩
  have kp : ∀ b o, s.heap.get? b = some o → (s.heap.push { cls := .type "list", data := .seq #[] }).get? b = some o := fun b o e => Heap.get?_push_of_some _ e
  have old : ∀ b o, s.heap.get? b = some o → b ≠ S := fun b o e z => by have := Heap.lt_size e; rw [z, eS] at this; exact absurd this (Nat.lt_irrefl _)
  have up : ∀ (h : Heap) (f : Array Value → Array Value), ∀ b o, b ≠ S → h.get? b = some o → (h.update S (Obj.mapSeq f)).get? b = some o := fun h f b o hb e => (Heap.get?_update_other _ _ (Ne.symm hb)).trans e
  show wpAny _ _ (do let old ← Builtin.List.listItems (.ref S); Builtin.List.listUpdate (.ref S) (fun _ => #[]); letGo old.toList.reverse; Builtin.List.listExtendWith (.ref S) (.ref d) .none) _ _ _
  refine wpAny_bind ?_
  unfold Builtin.List.listItems
  refine wpAny_bind (wpAny_seqItems hS rfl (wpAny_pure ?_))
  refine wpAny_bind (m := updateSeq S (fun _ => #[])) (wpAny_updateSeq hS rfl ?_)
  refine wpAny_bind (wpAny_letGo ?_)
  have hS2 := Heap.get?_update_self (Obj.mapSeq (fun _ => (#[] : Array Value))) hS rfl
  generalize eh2 : (s.heap.push { cls := .type "list", data := .seq #[] }).update S (Obj.mapSeq (fun _ => (#[] : Array Value))) = h2 at hS2
  have k2 : ∀ b o, s.heap.get? b = some o → h2.get? b = some o := fun b o e => by
    rw [← eh2]; exact up _ _ b o (old b o e) (kp b o e)
  have hm2 : h2.DictAt knd d kvs ep := hm.at' fun o e => k2 d o e
  have hot2 : HotAt A x1 h2 := by
    obtain ⟨hh, o, vs, a1, a2, a3⟩ := hot
    exact ⟨hh, o, vs, k2 x1 o a1, a2, a3⟩
  have hI : S ≠ h2.objs.size := Nat.ne_of_lt (Heap.lt_size hS2)
  have hdI : d ≠ h2.objs.size := Nat.ne_of_lt hm2.lt_size
  have hxI : x1 ≠ h2.objs.size := by
    obtain ⟨_, o, _, a1, _⟩ := hot2
    exact Nat.ne_of_lt (Heap.lt_size a1)
  have fin : ∀ (h : Heap) (c₁ tk : Nat), ((h.IsKeyIter h2.objs.size d 0 kvs.length ep ∧ h.DictAt knd d kvs ep) ∧ HotAt A x1 h) → (∀ b o, b ≠ S → h2.get? b = some o → h.get? b = some o) → h.get? S = some { cls := .type "list", data := .seq #[] c₁ } →
      codeAny (model prog w) A.in1 (.builtin "list.extend.loop" ⟨[.ref S, .ref h2.objs.size, .none], []⟩) (wants (fun r s₂ => r = .none ∧ Q (.ref S) s₂) E) { s with heap := h, toks := tk } := fun h c₁ tk st kk hh => by
    refine codeAny_extend_loopS (Walks.toS (walks_keys_hot (A := A.in1.in1) (x1 := x1) hdI hxI)) hn S (by simp only [List.mem_cons, List.not_mem_nil, or_false, not_or]; exact ⟨hI, Ne.symm hdS, Ne.symm hxS⟩) .none kvs.length 0 _ #[] c₁ rfl (Nat.zero_le _) st hh (ItemsOf.nil _) fun s' acc' c' mv hS' hacc => ?_
    rw [Moved.eq_with mv]
    refine ⟨rfl, k s'.heap s'.toks acc' c' (fun b o e => mv.heap b o (fun hb => ?_) (kk b o (old b o e) (k2 b o e))) hS' hacc⟩
    rcases List.mem_cons.mp hb with z | z
    · exact old b o e z
    · have := Heap.lt_size (k2 b o e)
      rw [List.mem_singleton.mp z] at this; exact absurd this (Nat.lt_irrefl _)
  unfold Builtin.List.listExtendWith
  refine wpAny_bind (wpAny_typeOf (T := "dict") (s := { s with heap := h2 }) hm2.dictOf.typeIs ?_)
  have n1 : Builtin.List.listSameRef (.ref S) (.ref d) = false := by simp [Builtin.List.listSameRef, Ne.symm hdS]
  have n2 : (Value.type "dict" == Value.type "list") = false := by decide
  have n3 : (Value.type "dict" == Value.type "tuple") = false := by decide
  simp only [n1, n2, n3, Bool.or_false, Bool.false_eq_true, if_false]
  refine wpAny_bind (wpAny_pyIter_dict (s := { s with heap := h2 }) lo hm2 ?_)
  generalize eo : ({ cls := .type "dict_keyiterator", data := .fields #[.ref d, .int 0 0, .int kvs.length 0, .int ep 0] } : Obj) = oI
  have hit : (h2.push oI).IsKeyIter h2.objs.size d 0 kvs.length ep := by
    rw [← eo]; exact ⟨_, Heap.get?_push_size _ rfl, rfl, rfl⟩
  have hS3 := Heap.get?_push_of_some oI hS2
  have hm3 : (h2.push oI).DictAt knd d kvs ep := hm2.push _
  have hot3 : HotAt A x1 (h2.push oI) := by
    obtain ⟨hh, o, vs, a1, a2, a3⟩ := hot2
    exact ⟨hh, o, vs, Heap.get?_push_of_some _ a1, a2, a3⟩
  refine wpAny_bind (wpAny_holding (PySem.W.kdl_hint_dict (s := { s with heap := h2.push oI }) hm3.dictOf.typeIs ?_))
  refine wpAny_ite_split (fun _ => ?_) (fun _ => wpAny_pure ⟨plainId_quiet PySem.F.plain_extend_loop _, fin (h2.push oI) _ s.toks ⟨⟨hit, hm3⟩, hot3⟩ (fun b o _ e => Heap.get?_push_of_some _ e) hS3⟩)
  refine wpAny_bind (wpAny_rule (wpAny_bind (m := updateSeq S (·.push .none) >>= fun _ => updateSeq S (·.pop)) (wpAny_bind (wpAny_updateSeq hS3 rfl ?_))))
  have hS4 := Heap.get?_update_self (Obj.mapSeq (·.push Value.none)) hS3 rfl
  refine wpAny_updateSeq (hz := by seq_fits) hS4 rfl (wpAny_pure ⟨plainId_quiet PySem.F.plain_extend_loop _, fin _ _ s.toks ⟨⟨hit.at fun o e => ?_, hm3.at' fun o e => ?_⟩, ?_⟩ (fun b o hb e => ?_) (Heap.get?_update_self (Obj.mapSeq (·.pop)) hS4 rfl)⟩)
  · exact up _ _ _ o (Ne.symm hI) (up _ _ _ o (Ne.symm hI) e)
  · exact up _ _ _ o hdS (up _ _ _ o hdS e)
  · obtain ⟨hh, o, vs, a1, a2, a3⟩ := hot3
    exact ⟨hh, o, vs, up _ _ _ o hxS (up _ _ _ o hxS a1), a2, a3⟩
  · exact up _ _ _ o hb (up _ _ _ o hb (Heap.get?_push_of_some _ e))
end
end Lg

namespace Lg
open PySem PySem.Spec L2 Evl PyProof.Rows HotX L2H
section
variable {X : Cx}
theorem strEndHot {prog : Program} {w : World} {A : Around} {E : Value → Shared → Prop} {s : Shared} {x1 it : Addr} {ty : String} {x : Str} {t : Tok} {i : Nat} {Q : Option Value → Shared → Prop} (hty : ty = "str_ascii_iterator" ∨ ty = "str_iterator") (hot : HotAt A x1 s.heap) (ne : x1 ≠ it) (hi : s.heap.IsStrIter it ty x t i) (hx : x.cps[i]? = none)
    (k : ∀ h', Heap.ExtBut it s.heap h' → Q none { s with heap := h' }) : wpAny (model prog w) A (pyNext (.ref it)) Q E s := by
  rcases hty with e | e <;> subst e
  · exact ascii_end_hot hot ne hi hx k
  · exact wide_end_hot hot ne hi hx k
theorem strItem {prog : Program} {w : World} {A : Around} {E : Value → Shared → Prop} {s : Shared} {it : Addr} {ty : String} {x : Str} {t : Tok} {i c : Nat} {Q : Option Value → Shared → Prop} (hty : ty = "str_ascii_iterator" ∨ ty = "str_iterator") (hi : s.heap.IsStrIter it ty x t i) (hx : x.cps[i]? = some c)
    (k : ∀ h', h'.IsStrIter it ty x t (i + 1) → Heap.SameBut it s.heap h' → Q (some (.str ⟨#[c]⟩ s.toks)) { s with heap := h', toks := s.toks + 1 }) : wpAny (model prog w) A (pyNext (.ref it)) Q E s := by
  rcases hty with e | e <;> subst e
  · exact wpAny_pyNext_ascii_item hi hx k
  · exact wpAny_pyNext_wide_item hi hx k
/-- a list comprehension over a text, where an exception is handled -/
theorem pe_lcStrH {elt tg iter : Expr} {ifs : List Expr} {scope : Scope} {own : List (Str × Nat)} {pos : Pos} {t0 : TE} {g : TG} {tt : TT} {te : TE} (hc : HotC X) (hN : X.N.Nodup) (h0 : PE X iter t0) (ok : BlkOk X.N X.env.scope scope own)
    (hg : ∀ (s : Shared) (H : Hp) (C : Addr) (cl : List (Str × Addr)) (fp : List Addr), PG (X.blk s H scope (compEnvC scope cl C X.env) fp) tg g) (ht : ∀ (s : Shared) (H : Hp) (C : Addr) (cl : List (Str × Addr)) (fp : List Addr), PTs (X.blk s H scope (compEnvC scope cl C X.env) fp) ifs tt)
    (he : ∀ (s : Shared) (H : Hp) (C : Addr) (cl : List (Str × Addr)) (fp : List Addr), PE (X.blk s H scope (compEnvC scope cl C X.env) fp) elt te) (hs : ∀ x, foldedSetIterable iter X.env x = pure x) :
    PE X (.ListComp elt [⟨tg, iter, ifs, 0⟩] scope pos) (tLc (iStr t0) g tt te (own.map (·.2))) := ⟨fun pins s σ H Q I h => by
  rw [eval_ListComp]
  have fr : ∀ y ∈ scope.names, y.2 = .free → ∃ c, X.env.cells.lookup y.1 = some c := fun y hy e => (ok.free y hy e).elim (fun k => I.ok.has _ (.inl k)) fun k => I.ok.has _ (.inr k)
  refine wpAny_comprehension_free rfl hs (closure_ok fr) ok.kind (fun y hy e => (ok.uniq y hy).trans (congrArg some e)) (thn (h0.run pins s σ H _ I h) fun xv s1 ⟨v, H1, I1, r1, x, ex, q⟩ => ?_)
  subst ex
  obtain ⟨t, rfl⟩ := r1
  have go : ∀ ty : String, (ty = "str_ascii_iterator" ∨ ty = "str_iterator") → ∀ Q' : Value → Shared → Prop, (∀ itv s2, Q' itv s2 ↔ wpAny (model X.prog X.w) X.A (newList []) (fun acc s₃ => wpAny (model X.prog X.w) X.A (newFunctionEnv scope X.env.globals (cloFrom X.env.cells scope.names []) [] X.env.qual none .none (some X.env)) (fun cenv s₄ =>
      codeAny (model X.prog X.w) X.A (.compStart (.ListComp elt [⟨tg, iter, ifs, 0⟩] scope pos) 0 itv acc { cenv with scope := relabel scope X.env }) (compPost (model X.prog X.w) X.A X.xe none (EP X pins σ Q) acc cenv.locals) s₄) X.xe s₃) X.xe s2) →
      Q' (.ref s1.heap.objs.size) { s1 with heap := s1.heap.push { cls := .type ty, data := .fields #[.str x t, .int 0 0] } } := fun ty hty Q' hQ' => by
    rw [hQ']
    generalize ei : s1.heap.objs.size = it
    generalize eo : ({ cls := .type ty, data := .fields #[.str x t, .int 0 0] } : Obj) = oI
    have st2 : (s1.heap.push oI).IsStrIter it ty x t 0 := by rw [← ei, ← eo]; exact ⟨_, Heap.get?_push_size _ rfl, rfl, rfl⟩
    have I2 : Inv X pins σ H1 { s1 with heap := s1.heap.push oI } := I1.kept (t' := s1.toks) fun b o e => Heap.get?_push_of_some _ e
    have f2 : FpOk X pins H1 it := I1.fpOk (Nat.le_of_eq ei) (I1.hok.fresh (Nat.le_of_eq ei))
    have lt2 : it < (s1.heap.push oI).objs.size := by rw [Heap.size_push, ei]; exact Nat.lt_succ_self _
    generalize e2 : ({ s1 with heap := s1.heap.push oI } : Shared) = s2 at I2
    have st2 : s2.heap.IsStrIter it ty x t 0 := by rw [← e2]; exact st2
    have lt2 : it < s2.heap.objs.size := by rw [← e2]; exact lt2
    refine wpAny_newObj_type (newEnv_comp ?_) (by show 0 ≤ sizeLine; decide)
    generalize eD : s2.heap.objs.size = D
    obtain ⟨W, ⟨m0, w0⟩, turn⟩ := q D (I2.hok.fresh (Nat.le_of_eq eD))
    generalize eL : ({ cls := .type "list", data := .seq ([] : List Value).toArray } : Obj) = oL
    have I3 : Inv X pins σ (upd H1 D (.lst [])) { s2 with heap := s2.heap.push oL } := I2.laid (t' := s2.toks) (fun b o e => Heap.get?_push_of_some _ e) (Nat.le_of_eq eD) ⟨Nat.zero_le _, [], 0, .nil, by rw [← eD, ← eL]; exact Heap.get?_push_size _ rfl⟩
    have f3 : FpOk X pins (upd H1 D (.lst [])) it ∧ it < (s2.heap.push oL).objs.size := ⟨⟨by rw [upd_ne (by rw [← eD]; exact Nat.ne_of_lt lt2)]; exact f2.1, f2.2⟩, by rw [Heap.size_push]; exact Nat.lt_succ_of_lt lt2⟩
    have st3 : (s2.heap.push oL).IsStrIter it ty x t 0 := let ⟨o, ho, r⟩ := st2; ⟨o, Heap.get?_push_of_some _ ho, r⟩
    generalize e3 : ({ s2 with heap := s2.heap.push oL } : Shared) = s3 at I3
    have h3 : s3.heap = s2.heap.push oL := by rw [← e3]
    rw [← h3] at f3 st3
    have I4 := block_start I3 ok hN (fp := [it]) fun b hb => by rw [List.mem_singleton.mp hb]; exact f3
    have pg := hg s3 (upd H1 D (.lst [])) s3.heap.objs.size (cellsFrom (s3.heap.objs.size + 1) scope.names (cloFrom X.env.cells scope.names [])) [it]
    have pt := ht s3 (upd H1 D (.lst [])) s3.heap.objs.size (cellsFrom (s3.heap.objs.size + 1) scope.names (cloFrom X.env.cells scope.names [])) [it]
    have pe := he s3 (upd H1 D (.lst [])) s3.heap.objs.size (cellsFrom (s3.heap.objs.size + 1) scope.names (cloFrom X.env.cells scope.names [])) [it]
    show codeAny _ _ (.compStart (.ListComp elt [⟨tg, iter, ifs, 0⟩] scope pos) 0 (.ref it) (.ref D) (compEnvC scope (cellsFrom (s3.heap.objs.size + 1) scope.names (cloFrom X.env.cells scope.names [])) s3.heap.objs.size X.env)) (compPost (model X.prog X.w) X.A X.xe none (EP X pins σ Q) (.ref D) s3.heap.objs.size) { s3 with heap := pushCells (s3.heap.push { cls := .type "dict", data := .dict #[] }) scope.names }
    generalize ec : compEnvC scope (cellsFrom (s3.heap.objs.size + 1) scope.names (cloFrom X.env.cells scope.names [])) s3.heap.objs.size X.env = ce at I4 pg pt pe ⊢
    have cL : ce.locals = s3.heap.objs.size := by rw [← ec]; rfl
    generalize eH3 : upd H1 D (.lst []) = H3 at I3 I4 pg pt pe w0 f3
    generalize e4 : ({ s3 with heap := pushCells (s3.heap.push { cls := .type "dict", data := .dict #[] }) scope.names } : Shared) = s4 at I4 ⊢
    have st4 : s4.heap.IsStrIter it ty x t 0 := let ⟨o, ho, r⟩ := st3; ⟨o, by rw [← e4]; exact pushCells_keeps _ _ _ _ (Heap.get?_push_of_some _ ho), r⟩
    obtain ⟨p1, hot, hp1⟩ := hc
    have P3 := I3.pin p1 (List.mem_append_left _ hp1)
    have ne1 : p1.1 ≠ it := f3.1.2.2.2.2.2 p1 (List.mem_append_left _ hp1)
    have fpB : ∀ {σ' : L2.St} {H' : Hp} {s' : Shared}, Inv (X.blk s3 H3 scope ce [it]) [] σ' H' s' → H' it = none → FpOk (X.blk s3 H3 scope ce [it]) [] H' it := fun {σ' H' s'} J hn =>
      ⟨hn, (J.ok.exf it List.mem_cons_self).1, J.ok.exfs it List.mem_cons_self, .inl List.mem_cons_self, fun x c e => (J.ok.exf it List.mem_cons_self).2 x c e, fun p hp => absurd (show p ∈ ([] : List (Addr × Obj)) ++ [] from hp) (by simp)⟩
    have loop : codeAny (model X.prog X.w) X.A (.compLoop (.ListComp elt [⟨tg, iter, ifs, 0⟩] scope pos) 0 (.ref it) (.ref D) ce) (compPost (model X.prog X.w) X.A X.xe none (EP X pins σ Q) (.ref D) s3.heap.objs.size) s4 := by
      refine compLoop_any (fun n s' => ∃ i H', Inv (X.blk s3 H3 scope ce [it]) [] (wipe σ (own.map (·.2))) H' s' ∧ s'.heap.IsStrIter it ty x t i ∧ H' it = none ∧ W i n H') (fun n s5 hI => ?_) m0 ⟨0, H3, I4, st4, f3.1.1, w0⟩
      obtain ⟨i, H5, I5, st5, n5, w5⟩ := hI
      rcases turn i n H5 w5 with ⟨stop, qq⟩ | ⟨gon, Nx, hNx, step⟩
      · have stop : x.cps.size ≤ i := stop
        have hot5 : HotAt X.A p1.1 s5.heap := by
          obtain ⟨hh, vs, v1, v2⟩ := hot
          exact ⟨hh, p1.2, vs, I5.base.keep _ _ P3.1 P3.2.1 (fun hm => (List.mem_cons.mp (I3.stkSub p1.1 hm)).elim P3.2.2.1 P3.2.2.2.1) (fun z => ne1 (List.mem_singleton.mp z)), v1, v2⟩
        obtain ⟨f0, g1, g2, g3, g4, g5⟩ := fpB I5 n5
        refine strEndHot hty hot5 ne1 st5 (Array.getElem?_eq_none stop) fun h' eb => ?_
        have I6 := I5.turned (t' := s5.toks) (fun b o hb e => eb b o hb e) f0 g1 g3 g4 g5
        have I7 : Inv X pins σ H5 { s5 with heap := h' } := I3.call' (ch := [it]) I6.os I6.base I6.hok I6.bare fun b hb => by rw [List.mem_singleton.mp hb]; exact ⟨f3.1.2.2.2.1, f3.1.2.1, f3.1.2.2.2.2.1, f3.1.2.2.2.2.2⟩
        have nC : H5 s3.heap.objs.size = none := by rw [← cL]; exact I6.free
        obtain ⟨m, hn, _⟩ := I6.loc
        have hn : Heap.Ns h' s3.heap.objs.size m := by rw [← cL]; exact hn
        refine ⟨m, hn, fun h'' sb => ?_⟩
        obtain ⟨f0, g1, g2, g3, g4, g5⟩ := I3.fpOk (Nat.le_refl _) nC
        exact ⟨.ref D, H5, I7.turned (t' := s5.toks) (fun b o hb e => (sb.2 b hb).trans e) f0 g1 g3 g4 g5, rfl, qq⟩
      · have gon : i < x.cps.size := gon
        obtain ⟨f0, g1, g2, g3, g4, g5⟩ := fpB I5 n5
        refine strItem hty st5 (Array.getElem?_eq_getElem gon) fun h' st' sb => ?_
        have I6 : Inv (X.blk s3 H3 scope ce [it]) [] (wipe σ (own.map (·.2))) H5 { s5 with heap := h', toks := s5.toks + 1 } := I5.turned (fun b o hb e => (sb.2 b hb).trans e) f0 g1 g3 g4 g5
        have hno : ["enumerate", "zip", "dict_itemiterator", "dict_reverseitemiterator", "odict_iterator", "itertools.zip_longest", "itertools.pairwise"].contains ty = false := by
          rcases hty with e | e <;> subst e <;> decide
        obtain ⟨oi, k1, k2, k3⟩ := id st'
        refine go_of (s := { s5 with heap := h', toks := s5.toks + 1 }) k1 k2 k3 hno ?_
        have I6' := I6.pinned (fp := [it]) (fun b hb => by rw [List.mem_singleton.mp hb]; exact fpB I6 n5) (fun b hb => by rw [List.mem_singleton.mp hb]; exact ⟨oi, k1, fun v z => by rw [k3] at z; cases z⟩)
        refine thnF (pg.run _ _ _ H5 (.str ⟨#[x.cps[i]]⟩) _ _ I6' ⟨_, rfl⟩ (step _ H5 ⟨rfl, x.cps[i], Array.getElem?_eq_getElem gon, rfl⟩)) fun _ s8 ⟨σ8, H8, I8, hw8, q8⟩ => ?_
        refine thnF (pt.run _ s8 σ8 H8 _ I8 q8) fun b s9 ⟨H9, I9, q9⟩ => ?_
        have fin : ∀ {s' : Shared} {H' : Hp}, Inv (X.blk s3 H3 scope ce [it]) ([] ++ pinsAt [it] h') σ8 H' s' → Nx H' → ∃ m, m < n ∧ ∃ i H', Inv (X.blk s3 H3 scope ce [it]) [] (wipe σ (own.map (·.2))) H' s' ∧ s'.heap.IsStrIter it ty x t i ∧ H' it = none ∧ W i m H' := fun {s' H'} J nx => by
          obtain ⟨m', hm, w'⟩ := hNx H' nx
          have pin' := J.pin (it, oi) (List.mem_append_right _ (List.mem_append_right _ (mem_pinsAt (fp := [it]) List.mem_cons_self k1)))
          refine ⟨m', hm, i + 1, H', (J.unpinned (pins := [])).weak (by rw [← wipe_length (σ := σ8) (vs := own.map (·.2)), hw8]) (fun j v e => ?_), ⟨oi, pin'.1, k2, k3⟩, pin'.2.1, w'⟩
          rw [← hw8] at e
          exact (wipe_some e).1
        cases b with
        | false =>
          simp only [Bool.false_eq_true, if_false] at q9 ⊢
          exact fin I9 q9
        | true =>
          simp only [if_true] at q9 ⊢
          refine thnF (pe.run _ s9 σ8 H9 _ I9 q9) fun z s10 ⟨yv, H10, I10, r10, acc, hD10, hz10, nx⟩ => ?_
          exact app_ok (X := X.blk s3 H3 scope ce [it]) I10 hD10 hz10 r10 fun s11 I11 => fin I11 nx
    refine codeAny_compStart_list loop ?_
    rcases hty with e | e <;> subst e
    · exact wpAny_pyIter_striter_ascii st4 loop
    · exact wpAny_pyIter_striter_wide st4 loop
  cases ha : x.cps.all (· < 128) with
  | false => exact wpAny_pyIter_wide ha (go "str_iterator" (.inr rfl) _ fun _ _ => Iff.rfl)
  | true => exact wpAny_pyIter_ascii ha (go "str_ascii_iterator" (.inl rfl) _ fun _ _ => Iff.rfl)⟩
end
end Lg

/-! The rules for defs that are called while an exception is handled. -/
namespace Lg
open PySem L2 Evl PyProof.Rows HotX L2H
structure KnH (P : Program) (w : World) (K : PySem.W.Frag) (mg : Str → Option Value) (base : Heap) (k : Nat) (x : Str) (ps : List Str) (sp : Sp) : Prop where
  ex : ∃ f fd, FnH P w K mg base (L2N.CX P w) k f fd ps sp ∧ mg x = some (.ref f) ∧ PySem.W.keepIn K (.ref f) = true ∧ Binds K fd ps []
structure KnMH (P : Program) (w : World) (K : PySem.W.Frag) (mg : Str → Option Value) (base : Heap) (k : Nat) (C : Addr) (m : Str) (ps : List Str) (sp : Sp) : Prop where
  ex : ∃ f fd, FnH P w K mg base (L2N.CX P w) k f fd ps sp ∧ Meth K C m f ∧ Binds K fd ps []
  cl : Cls K C
/-- the suite's context bears the exception -/
theorem hotSuite {X : Cx} {a : Addr} {oe : Obj} {pn : List (Addr × Obj)} {C : Value} {d : Option Addr} (hz : L2N.Zn C d oe) (hv : ∃ vs, oe.data = .fields vs) : HotC (X.suite a ((a, oe) :: pn)) := by
  obtain ⟨vs, hv⟩ := hv
  exact ⟨(a, oe), ⟨rfl, vs, hv, hz.2.2 vs hv⟩, List.mem_cons_self⟩
theorem hotH {CX : CXT} {P : Program} {w : World} {K : PySem.W.Frag} {mg : Str → Option Value} {base : Heap} {N : List Str} {qual : Str} {scope : Scope} {f : Addr} {cd : Value} {A : Around} {outer : List Env} {s : Shared} {H : Hp} {E : XK} {p : Addr × Obj} (h : Hot1 A p) : HotC (cxH CX P w K mg base N qual scope f cd A outer s H E p) :=
  ⟨p, h, List.mem_singleton.mpr rfl⟩
section
variable {P : Program} {w : World} {K : PySem.W.Frag} {mg : Str → Option Value} {base : Heap} {x qual : Str} {st : Stmt} {f : Addr} {fd : FuncData} {N ps : List Str} {k : Nat} {ι : Type} {A : ι → List Im} {pre : ι → Prop} {res : ι → Rs}
theorem fn_okH (F : Fun K x qual st f fd) (S : FnScope N ps (defScope st)) (hA : ∀ i, (A i).length = ps.length)
    (body : ∀ (i : ι) (B : Bs) (cdv : Value) (A' : Around) (outer : List Env) (s : Shared) (H : Hp) (E : XK) (p : Addr × Obj), Hot1 A' p → pre i → RoomH k (A'.deeper (envOfC qual (defScope st) s.heap.objs.size f cdv)) → (∀ C, res i = .err C → ∀ H', Ex B.B H' → E (.ref C) none H') →
      HT (cxH (L2N.CX P w) P w K mg base N qual (defScope st) f cdv A' outer s H E p) B ⟨fun _ => res i = .ok (im rU ()), fun s => res i = .ok s, fun _ => False, fun _ => False⟩ (c0 (A i) (N.length - ps.length)) (defBody st)) :
    FnH P w K mg base (L2N.CX P w) (k + 1) f fd ps (spX A pre res) := by
  obtain ⟨oc, od, kV, dc, pm, an, cdv, ct, sl, e, lk, hcd⟩ := F.ex
  rw [e] at *
  refine fn_ofH lk hcd S (fun vs H Q E ⟨i, F, _, hv, _⟩ => by rw [hv.len, hA i]) fun A' outer s H vs Q E p hot hr ⟨i, F0, hF, hv, hp, h1, h2⟩ => ⟨_, pss_w, ?_⟩
  have hn : vs.length = ps.length := by rw [hv.len, hA i]
  have g0 : Sg ⟨F0, H⟩ (c0 (A i) (N.length - ps.length)) (L2.start N vs) F0 H := ⟨[], by
    unfold L2.start
    rw [hn]
    exact SgL.args _ hv, Ex.refl _, Ex.refl _, hF, fun _ h _ => h, List.nodup_nil, fun _ h => (nomatch h), fun _ h => nomatch h⟩
  refine wS.mono (body i ⟨F0, H⟩ cdv A' outer s H E p hot hp hr h2 _ F0 H g0) (fun σ' H' h => ?_) (fun v H' h => ?_) (fun _ _ h => ?_) (fun _ _ h => ?_)
  · obtain ⟨Γ, F', ⟨l, _, d⟩, h⟩ := h
    exact h1 _ h .non F' H' [] ⟨d.ef, d.eb, d.e, fun a q1 q2 => d.k a q1 q2⟩ ⟨rfl, rfl⟩ fun _ h => nomatch h
  · obtain ⟨s', F', l, p, d, h⟩ := h
    exact h1 _ h v F' H' l ⟨d.ef, d.eb, d.e, fun a q1 q2 => d.k a q1 q2⟩ p fun a ha => ⟨d.ob a ha, d.of a ha⟩
  · obtain ⟨_, _, _, h⟩ := h; exact h.elim
  · obtain ⟨_, _, _, h⟩ := h; exact h.elim
end
section
variable {X : Cx} {b : Bs} {Γ : Lg.Ctx} {C : EndC} {k : Nat} {x m n : Str} {ps : List Str} {ι β α : Type} {A : ι → List Im} {pre : ι → Prop} {res : ι → Rs} {i : ι} {s : Sl} {e o tg : Expr} {es : List Expr} {p np pos apos : Pos} {W : WX} {CC : Addr} {rest bd : List Stmt}
theorem EV.callH (T : KnH X.prog X.w X.K X.mg X.base k x ps (spX A pre res)) (hr : RoomH k X.A) (hc : HotC X) (tk : L2N.Takes X W) (ha : AV X b Γ (e :: es) (A i)) (hp : pre i) (h1 : res i = .ok s) (hg : Gl X x := by rfl)
    (hdb : (x == ("__debug__" : Str)) = false := by decide) (he : starEach (e :: es) X.env = (false, eval e X.env) :: starEach es X.env := by rfl) (hpl : (backTo pos (starEach es X.env)).any (·.1) = false := by rfl) : EV X b Γ (.Call (.Name x p) (e :: es) [] pos) s := by
  obtain ⟨ta, p1, p2⟩ := ha
  obtain ⟨f, fd, F, hm, hk, hb⟩ := T.ex
  refine EV.of (pe_callH F hr hc hg hm hk hb (fun σ => L2N.passAt tk σ) p1 hdb he hpl) fun σ F H l g d Q q => p2 σ F H l g d _ fun vs F1 H1 w hv => ?_
  refine ⟨i, F1, w.e, hv, hp, fun s' hs v F' H' l' w' p f => ?_, fun C hC H' h => ?_⟩
  · rw [h1] at hs
    cases hs
    exact q v F' H' l' (w.trans w') p fun a ha => ⟨ex_none w.h (f a ha).1, (f a ha).2⟩
  · rw [h1] at hC; cases hC
/-- a loop over range(n) there -/
theorem HT.forH {a : Expr} {j : Int} {p pos' : Pos} (hc : HotC X) (ha : AV X b Γ [a] [mk rI j]) (hj : -(2 ^ 62) ≤ j ∧ j < 2 ^ 62) (hm : X.mg "range" = none) (Inv : Nat → Lg.Ctx → Prop) (h0 : Inv 0 Γ)
    (hs : ∀ b' i y Γ', b'.B = b.B → i < j.toNat → IRz i y → Inv i Γ' → ∃ Γ'', GV X b' Γ' tg y Γ'' ∧ HT X b' { C with nx := Inv (i + 1), ct := Inv (i + 1), bk := fun Γ => HT X b C Γ rest } Γ'' bd) (hd : ∀ Γ', Inv j.toNat Γ' → HT X b C Γ' rest)
    (hp : PassesOwn (model X.prog X.w) X.A X.env X.xe) (hg : Gl X "range" := by rfl) (hse : starEach [a] X.env = [(false, eval a X.env)] := by rfl) (hf : ∀ x, foldedSetIterable (.Call (.Name "range" p) [a] [] pos') X.env x = pure x := by intro _; rfl) : HT X b C Γ (.For tg (.Call (.Name "range" p) [a] [] pos') bd [] pos :: rest) := by
  obtain ⟨ta, p1, k1⟩ := ha
  refine HT.step (ps_forH hp hc (pi_range1H hg hm p1 hse) pg_w pss_w hf) fun σ F H ⟨l, g, d⟩ => k1 σ F H l g d _ fun vs F1 H1 w hv => ?_
  obtain ⟨v, rfl, hv1⟩ := ims1 hv
  refine ⟨j, by rw [show v = V.int j from hv1], hj.1, hj.2, ?_⟩
  have d1 := d.grow g.t w
  have u1 := d1.up
  refine for_it walk_range (fun i σ' H' => At ⟨F1, b.B⟩ (Inv i) σ' H') ⟨Γ, F1, ⟨l, g.grow w, d1.self⟩, h0⟩ (fun i σ' H' _ _ => trivial) (fun i v σ' H' H'' hi ⟨Γ', F', ⟨l', g', d'⟩, iv⟩ y => ?_) (fun σ' H' ⟨Γ', F', g', iv⟩ => hd Γ' iv σ' F' H' (u1.sg g'))
  obtain ⟨rfl, rfl⟩ := y
  obtain ⟨Γ'', ⟨g0, q1, q2⟩, q3⟩ := hs ⟨F', b.B⟩ i (mk rI (i : Int)) Γ' rfl hi rfl iv
  have u2 : Up ⟨F1, b.B⟩ ⟨F', b.B⟩ := d'.up
  refine wG.of q1 (q2 σ' F' _ _ ⟨l', g', d'.self⟩ (show V.int (0 + (i : Int)) = V.int (i : Int) by rw [Int.zero_add]) _ fun σ2 g2 => ?_)
  refine wS.mono (q3 σ2 F' _ g2) (fun _ _ h => u2.at h) (fun _ _ h => u1.rt (u2.rt h)) (fun σ3 H3 h => ?_) (fun _ _ h => u2.at h)
  obtain ⟨Γ3, F3, g3, h3⟩ := h
  exact h3 σ3 F3 H3 (u1.sg (u2.sg g3))
/-- [n for n in text if ..] there -/
theorem EV.lcStrH {z : Str} {iter tst : Expr} {scope : Scope} {j : Nat} {elt : Expr} {γ : Type} {S : Rl γ} (hc : HotC X) (q : Str → Bool) (f : Str → γ) (hi : EV X b Γ iter (im rS z)) (nd : X.N.Nodup) (ok : blkC X.N X.env.scope scope [(n, j)] = true) (hz : z.length ≤ 100000)
    (ht : ∀ (b' : Bs) (i : Nat) (a : Str) s H0 C cl fp, b'.B = b.B → ((cs z).map sg)[i]? = some a → TV (X.blk s H0 scope (compEnvC scope cl C X.env) fp) b' (Sb Γ j (mk rS a)) tst (q a))
    (he : ∀ (b' : Bs) (i : Nat) (a : Str) s H0 C cl fp, b'.B = b.B → ((cs z).map sg)[i]? = some a → q a = true → EV (X.blk s H0 scope (compEnvC scope cl C X.env) fp) b' (Sb Γ j (mk rS a)) elt (im S (f a)))
    (hg : ∀ (s : Shared) (H0 : Hp) (C : Addr) (cl : List (Str × Addr)) (fp : List Addr), PG (X.blk s H0 scope (compEnvC scope cl C X.env) fp) (.Name n np) (gName j)) (hf : ∀ x, foldedSetIterable iter X.env x = pure x := by intro _; rfl) :
    EV X b Γ (.ListComp elt [⟨.Name n np, iter, [tst], 0⟩] scope pos) (ow S ((((cs z).map sg).filter q).map f)) := by
  let as := (cs z).map sg
  let out : Nat → Option γ := fun i => as[i]?.bind fun a => if q a then some (f a) else none
  have hl : as.length ≤ 100000 := by show ((cs z).map sg).length ≤ _; rw [List.length_map, cs_len]; exact hz
  have e : (List.range as.length).filterMap out = (as.filter q).map f := range_filter as q f out fun i a ha => by
    show (as[i]?.bind fun a => if q a then some (f a) else none) = _
    rw [ha]; rfl
  rw [show (((cs z).map sg).filter q).map f = (List.range as.length).filterMap out from e.symm]
  refine EV.of (pe_lcStrH (own := [(n, j)]) (g := gName j) (tt := wTb X scope tst) (te := wEb X scope elt) hc nd pe_w (blkOk_by ok) hg (fun _ _ _ _ _ => pts_one pt_wb) (fun _ _ _ _ _ => pe_wb) hf) (EvS.lcG (n := n) (IR := IL rS as) out (fun σ F H l g d R r => ?_) hl (fun b' i y hb hi hy => ?_) (fun b' i y s H0 C cl fp w hb hi hy ho => ?_))
  · refine hi σ F H l g d _ fun v F1 H1 l1 w p _ => ⟨z, p.2, r _ F1 H1 w ?_⟩
    have e2 : as.length = z.cps.size := by show ((cs z).map sg).length = _; rw [List.length_map]; exact Array.length_toList
    rw [e2]
    refine ⟨_, _, walk_str, fun F' H' _ _ => trivial, fun i F' H' v H'' hi _ e3 y => ?_⟩
    obtain ⟨rfl, c, hy, rfl⟩ := y
    exact ⟨F', mk rS (sg c), Gw.refl e3, ⟨sg c, by show ((cs z).map sg)[i]? = _; rw [List.getElem?_map, cs, Array.getElem?_toList, hy]; rfl, rfl⟩, rfl⟩
  · obtain ⟨a, ha, rfl⟩ := hy
    have : (out i).isSome = q a := by
      show (as[i]?.bind fun a => if q a then some (f a) else none).isSome = _
      rw [ha]
      show (if q a then some (f a) else none).isSome = _
      cases q a <;> rfl
    rw [this]
    exact TvS.blk fun s H0 C cl fp => ht b' i a s H0 C cl fp hb ha
  · obtain ⟨a, ha, rfl⟩ := hy
    have ho : (as[i]?.bind fun a => if q a then some (f a) else none) = some w := ho
    rw [ha] at ho
    have ho : (if q a then some (f a) else none) = some w := ho
    cases hq : q a with
    | false => rw [hq] at ho; cases ho
    | true =>
      rw [hq] at ho
      cases ho
      exact he b' i a s H0 C cl fp hb ha hq
theorem _root_.L2H.RoomH.units {k : Nat} {A : Around} (r : RoomH k A) : A.units + 64 < cLine := by have := r.un; omega
theorem _root_.L2H.RoomH.u1 {k : Nat} {A : Around} (r : RoomH k A) : A.units + 1 < cLine := by have := r.un; omega
theorem pe_methH0 {CX : CXT} {C : Addr} {f : Addr} {fd : FuncData} {sp : Sp} {E : L2.St → XK} {ta : TE} {pl : Sem Bool} (he : PE X o ta) (c : Cls X.K C) (hm : Meth X.K C m f) (F : FnH X.prog X.w X.K X.mg X.base CX k f fd ps sp) (hr : RoomH k X.A) (hc : HotC X) (hb : Binds X.K fd ps []) (hx : ∀ σ, PassesAt CX X σ (E σ))
    (ht : eval (.Call (.Attribute o m apos) [] [] pos) X.env = (do
      let ov ← eval o X.env
      standAt apos.atName
      let (f, first) ← holding [ov] (getMethod ov m pl)
      callWith pos f first (backTo pos (starEach [] X.env)) (backToKw pos (keywordEach [] X.env))) := by rfl) : PE X (.Call (.Attribute o m apos) [] [] pos) (tMethX C m sp E ta tNil) := ⟨fun pins s σ H Q I h => by
  refine PySem.W.methodCall_KW (pl := pl) (thn (he.run pins s σ H _ I h) fun u s1 ⟨x, H1, I1, rx, a, dx, fs, ex, ea, l, q⟩ => ?_) ht
  subst ex
  obtain rfl : u = Value.ref a := rx
  exact getmeth_ok I1 ea c hm l (PySem.W.callWith_K0 (first := [.ref a]) I1.kIn hm.kp (run_fnH (us := [.ref a]) (vs := [.ref a]) F hr hc hb (hx σ) I1 (.cons rfl .nil) q))⟩
/-- o.m() there -/
theorem EV.methH0 {R : Rl β} {y : β} {pl : Sem Bool} (T : KnMH X.prog X.w X.K X.mg X.base k CC m ps (spX A pre res)) (hr : RoomH k X.A) (hc : HotC X) (tk : L2N.Takes X W) (ho : EV X b Γ o (im R y)) (hR : ∀ F v, R.r F v y → ∃ a dx fs, v = .ref a ∧ F a = some (.ins CC dx fs) ∧ fs.lookup m = none) (hA : A i = [mk R y]) (hp : pre i) (h1 : res i = .ok s)
    (ht : eval (.Call (.Attribute o m apos) [] [] pos) X.env = (do
      let ov ← eval o X.env
      standAt apos.atName
      let (f, first) ← holding [ov] (getMethod ov m pl)
      callWith pos f first (backTo pos (starEach [] X.env)) (backToKw pos (keywordEach [] X.env))) := by rfl) : EV X b Γ (.Call (.Attribute o m apos) [] [] pos) s := by
  obtain ⟨f, fd, F, hm, hb⟩ := T.ex
  refine EV.of (pe_methH0 pe_w T.cl hm F hr hc hb (fun σ => L2N.passAt tk σ) ht) fun σ F H l g d Q q => ho σ F H l g d _ fun v F1 H1 l1 w ⟨_, hv⟩ _ => ?_
  obtain ⟨a, dx, fs, rfl, ha, hl⟩ := hR F1 v hv
  refine ⟨a, dx, fs, rfl, w.e a _ ha, hl, i, F1, w.e, by rw [hA]; exact .cons hv .nil, hp, fun s' hs v F' H' l' w' p f => ?_, fun C hC H' h => ?_⟩
  · rw [h1] at hs
    cases hs
    exact q v F' H' l' (w.trans w') p fun a ha => ⟨ex_none w.h (f a ha).1, (f a ha).2⟩
  · rw [h1] at hC; cases hC
theorem call_listDH (hc : HotC X) : CallR X (.type "list") (fun xs H Q => ∃ (a : Addr) (kvs : List (Key × V)), xs = [.ref a] ∧ Rd H a (.dK kvs) ∧ ∀ p, H p = none → Q (.ref p) (upd H p (.lst (kvs.map fun kv => kV kv.1)))) := fun pins s σ H xs us Q I r ⟨a, kvs, ex, hd, q⟩ => by
  subst ex
  obtain ⟨u, rfl, rx⟩ := vals1 r
  cases rx
  obtain ⟨z, lo, vs, rel, dd⟩ := dk_rd I.hok hd
  obtain ⟨ep, hat⟩ := dd.dictAt
  obtain ⟨x1, hot⟩ := hc.at I
  have ek : (kvs.map fun kv => kV kv.1) = vs.map fun p => kV p.1 := by
    have e := congrArg (List.map kV) rel.keys
    rwa [List.map_map, List.map_map] at e
  refine list_dict_hot (knd := mixKind X.prog X.w) (kvs := vs) (ep := ep) hot lo hat (by rw [← rel.length]; exact z) fun h' tk acc c hk hD hacc => ?_
  refine ⟨.ref s.heap.objs.size, _, I.laid (t' := tk) (o := .lst (kvs.map fun kv => kV kv.1)) hk (Nat.le_refl _) (show ObjOk X.prog X.w _ _ _ (.lst (kvs.map fun kv => kV kv.1)) from ⟨by rw [List.length_map]; exact z, acc.toList, c, ?_, by rw [Array.toArray_toList]; exact hD⟩), rfl, q _ (I.hok.fresh (Nat.le_refl _))⟩
  rw [ek]
  exact keys_at (by rw [Array.length_toList]; exact hacc.1) fun j v e => hacc.2 j v ((Array.getElem?_toList ..).symm.trans e)
/-- list(d) there -/
theorem EV.listKH {DD : Rl (List (Key × β))} {S : Rl β} {kvs : List (Key × β)} {ns : List Str} (hc : HotC X) (hD : Dic DD S) (ha : AV X b Γ [e] [mk DD kvs]) (hk : ks kvs ns) (hm : X.mg "list" = none) (hg : Gl X "list" := by rfl) (he : starEach [e] X.env = (false, eval e X.env) :: starEach [] X.env := by rfl) : EV X b Γ (.Call (.Name "list" p) [e] [] pos) (ow rS ns) := by
  obtain ⟨ta, p1, p2⟩ := ha
  refine EV.of (pe_callTy (call_listDH hc) hg hm (by decide +kernel) p1 (he := he) (hpl := rfl)) fun σ F H l g d Q q => p2 σ F H l g d _ fun vs F1 H1 w hv => ?_
  obtain ⟨v, rfl, hv2⟩ := ims1 hv
  have hv2 : DD.r F1 v kvs := hv2
  obtain ⟨a, ws, h1, h2, h3⟩ := hD hv2
  refine ⟨a, ws, by rw [h1], rd_ex w.e h2, fun r hr => ?_⟩
  have fr : F1 r = none := ex_none w.e hr
  refine q _ F1 _ [r] (w.trans (Gw.own w.e hr)) ⟨r, _, rfl, rfl, upd_same, all2_keys (by rw [ks, h3.keys]; exact hk) F1⟩ fun c hc => ?_
  rw [List.mem_singleton.mp hc]
  exact ⟨ex_none w.h hr, fr⟩
end
end Lg

namespace K1
open PySem L2 Evl Lg PyProof.Rows
def topS (i : Nat) : Stmt := PySem.Challenge.pw_cellguard_k01_trees_of_areas.main.body.getD i (.Pass ⟨0, 0, 0, 0⟩)
abbrev sIsName : Stmt := topS 8
abbrev sFits : Stmt := topS 10
abbrev sChecked : Stmt := topS 11
/-- what the top holds -/
structure Tp (K : PySem.W.Frag) (mg : Str → Option Value) (CP CU CT : Addr) : Prop where
  rng : mg "range" = none
  len : mg "len" = none
  lst : mg "list" = none
  all : mg "all" = none
  abs : mg "abs" = none
  int : mg "int" = none
  isi : mg "isinstance" = none
  lets : ∃ t, mg "LETTERS" = some (.str "abcdefghijklmnopqrstuvwxyz" t)
  chrs : ∃ t, mg "NAME_CHARACTERS" = some (.str "abcdefghijklmnopqrstuvwxyz0123456789-" t)
  long : ∃ t, mg "LONGEST_NAME" = some (.int 12 t)
  ep : ErrC K mg "InvalidPlan" CP
def alnum (c : Nat) : Bool := decide (97 ≤ c ∧ c ≤ 122) || decide (48 ≤ c ∧ c ≤ 57) || decide (c = 45)
def lower (c : Nat) : Bool := decide (97 ≤ c ∧ c ≤ 122)
def nameB (z : Str) : Bool := match cs z with
  | [] => false
  | c :: r => decide (z.length ≤ 12) && lower c && (c :: r).all alnum
theorem lets_in (c : Nat) : decide (c ∈ cs ("abcdefghijklmnopqrstuvwxyz" : Str)) = lower c := by
  have : cs ("abcdefghijklmnopqrstuvwxyz" : Str) = [97, 98, 99, 100, 101, 102, 103, 104, 105, 106, 107, 108, 109, 110, 111, 112, 113, 114, 115, 116, 117, 118, 119, 120, 121, 122] := by decide +kernel
  rw [this, lower, Bool.eq_iff_iff]
  simp only [decide_eq_true_eq, List.mem_cons, List.not_mem_nil, or_false]
  omega
theorem chrs_in (c : Nat) : decide (c ∈ cs ("abcdefghijklmnopqrstuvwxyz0123456789-" : Str)) = alnum c := by
  have : cs ("abcdefghijklmnopqrstuvwxyz0123456789-" : Str) = [97, 98, 99, 100, 101, 102, 103, 104, 105, 106, 107, 108, 109, 110, 111, 112, 113, 114, 115, 116, 117, 118, 119, 120, 121, 122, 48, 49, 50, 51, 52, 53, 54, 55, 56, 57, 45] := by decide +kernel
  rw [this, alnum, Bool.eq_iff_iff]
  simp only [Bool.or_eq_true, decide_eq_true_eq, List.mem_cons, List.not_mem_nil, or_false]
  omega
section
variable {P : Program} {w : World} {K : PySem.W.Frag} {mg : Str → Option Value} {base : Heap} {CP CU CT : Addr}
abbrev nIsName : List Str := ["text", "character"]
theorem scIsName : FnScope nIsName ["text"] (defScope sIsName) := ⟨rfl, rfl, rfl, by decide +kernel, rfl, by decide +kernel, by decide +kernel⟩
def spIsName : Sp := spX (ι := Str) (fun i => [mk rS i]) (fun i => i.length ≤ 1000) (fun i => .ok (im rB (nameB i)))
theorem ok_isName {f : Addr} {fd : FuncData} (F : Fun K "is_name" "is_name" sIsName f fd) (T : Tp K mg CP CU CT) : FnOk P w K mg base (L2N.CX P w) 1 f fd ["text"] spIsName := by
  refine fn_ok F scIsName (fun _ => rfl) fun z B cdv A' outer s H E hp hr _ => ?_
  have hp : z.length ≤ 1000 := hp
  have nd := scIsName.nd
  obtain ⟨t1, g1⟩ := T.lets
  obtain ⟨t2, g2⟩ := T.chrs
  obtain ⟨t3, g3⟩ := T.long
  conv => arg 5; whnf
  show HT _ _ _ [some (im rS z), none] _
  refine HT.when (TV.not (TV.leLe EV.int (EV.lenS (AV.cons (EV.var 0) AV.nil) (Nat.le_trans hp (by decide)) T.len) (EV.gl (R := rI) (v := .int 12) g3 ⟨_, rfl⟩ fun F => rfl))) (fun h => HT.ret EV.bl ?_) (fun h => ?_)
  · show Rs.ok _ = Rs.ok _
    have hl := cs_len z
    unfold nameB
    cases q : cs z with
    | nil => rfl
    | cons c r =>
      rw [q] at hl
      simp only [List.length_cons] at hl
      simp at h
      have : ¬ z.length ≤ 12 := by omega
      simp [this]
  · simp at h
    have hl := cs_len z
    cases q : cs z with
    | nil => rw [q] at hl; simp at hl; omega
    | cons c r =>
      refine HT.ret (EV.andV (EV.inSg (EV.chr (c := c) (EV.var 0) EV.int (by decide) (by decide) (by rw [q]; rfl)) (EV.gl (R := rS) (v := .str _) g1 ⟨_, rfl⟩ fun F => rfl)) fun _ => EV.all (AV.cons (EV.fz (LV.ev (LV.lcL0 (j := 1) (S := rB) (fun x : Str => decide (x.cps.toList.headD 0 ∈ cs ("abcdefghijklmnopqrstuvwxyz0123456789-" : Str))) (IV.chars (EV.var 0)) nd (by show blkC nIsName (defScope sIsName) _ [("character", 1)] = true; decide +kernel) (by rw [List.length_map, hl]; omega) (fun b' i a s H0 C cl fp hb ha => ?_) (fun _ _ _ _ _ => pg_name nd rfl (Or.inl rfl))))) AV.nil) T.all) ?_
      · rw [List.getElem?_map] at ha
        cases z1 : (cs z)[i]? with
        | none => rw [z1] at ha; cases ha
        | some d =>
          rw [z1] at ha; cases ha
          exact EV.inSg (EV.var 1) (EV.gl (R := rS) (v := .str _) g2 ⟨_, rfl⟩ fun F => rfl)
      · show Rs.ok _ = Rs.ok _
        unfold nameB
        rw [q]
        dsimp only
        have h12 : z.length ≤ 12 := by omega
        rw [decide_eq_true h12, Bool.true_and, lets_in]
        congr 3
        rw [List.map_map, List.all_map]
        congr 1
        funext d
        exact (chrs_in d).symm
end
end K1

namespace K1
open PySem L2 Evl Lg PyProof.Rows
abbrev Ar := List (Str × Option Str)
def mem? (ns : List Str) : Option Str → Bool
  | none => false
  | some p => decide (p ∈ ns)
/-- the rules for one more area -/
def fitsB (ns : List Str) (name : Str) (parent : Option Str) : Bool :=
  if !nameB name || decide (name ∈ ns) then false else if ns = [] then parent.isNone else mem? ns parent
def seqB : List Str → Ar → Bool
  | _, [] => true
  | seen, (n, p) :: r => fitsB seen n p && seqB (seen ++ [n]) r
theorem seqB_app (r : Ar) : ∀ (l : Ar) (seen : List Str), seqB seen (l ++ r) = (seqB seen l && seqB (seen ++ l.map (·.1)) r)
  | [], seen => by simp [seqB]
  | (n, p) :: l, seen => by
    show (fitsB seen n p && seqB (seen ++ [n]) (l ++ r)) = (fitsB seen n p && seqB (seen ++ [n]) l && seqB (seen ++ n :: l.map (·.1)) r)
    rw [seqB_app r l, Bool.and_assoc, List.append_assoc]; rfl
theorem u1 {k : Nat} {A : Around} (hr : Room k A) : A.units + 1 < cLine := Nat.lt_of_le_of_lt (Nat.add_le_add_left (by decide : 1 ≤ 64) _) hr.units
def treeB (areas : Ar) : Bool := seqB [] areas && !areas.isEmpty
section
variable {P : Program} {w : World} {K : PySem.W.Frag} {mg : Str → Option Value} {base : Heap} {CP CU CT : Addr}
abbrev nFits : List Str := ["parents", "name", "parent"]
theorem scFits : FnScope nFits ["parents", "name", "parent"] (defScope sFits) := ⟨rfl, rfl, rfl, by decide +kernel, rfl, by decide +kernel, by decide +kernel⟩
abbrev rArea : Rl (Str × Option Str) := rP rS (rO rS)
def spFits : Sp := spX (ι := Ar × Str × Option Str) (fun i => [mk (rD (rO rS)) (kvS i.1), mk rS i.2.1, mk (rO rS) i.2.2]) (fun i => i.2.1.length ≤ 1000) (fun i => .ok (im rB (fitsB (i.1.map (·.1)) i.2.1 i.2.2)))
theorem ok_fits {f : Addr} {fd : FuncData} (F : Fun K "area_fits" "area_fits" sFits f fd) (T1 : Kn P w K mg base 1 "is_name" ["text"] spIsName) : FnOk P w K mg base (L2N.CX P w) 2 f fd ["parents", "name", "parent"] spFits := by
  refine fn_ok F scFits (fun _ => rfl) fun ⟨l, z, o⟩ B cdv A' outer s H E hp hr _ => ?_
  have hp : z.length ≤ 1000 := hp
  have tk : L2N.Takes (cxOf (L2N.CX P w) P w K mg base nFits "area_fits" (defScope sFits) f cdv A' outer s H E) (fun cls d _ H => E cls d H) := L2N.takes_of rfl rfl rfl rfl
  have hu := u1 hr
  conv => arg 5; whnf
  show HT _ _ _ [some (im (rD (rO rS)) (kvS l)), some (im rS z), some (im (rO rS) o)] _
  have hm : (kget (kvS l) (Sum.inr z)).isSome = decide (z ∈ l.map (·.1)) := kget_some l z
  have he : (kvS l).isEmpty = decide (l.map (·.1) = []) := by cases l <;> rfl
  refine HT.when (TV.or (TV.not (TV.val (EV.call (i := z) T1 (hr.mono (by decide)) tk (AV.cons (EV.var 1) AV.nil) hp rfl))) fun _ => TV.inK (k := Sum.inr z) Dic.pl hu (EV.var 1) (fun F v h => h) (EV.var 0)) (fun h => HT.ret EV.bl ?_) (fun h => ?_)
  · show Rs.ok _ = Rs.ok _
    rw [hm] at h
    unfold fitsB
    rw [if_pos h]
  rw [hm] at h
  refine HT.when (TV.not (TV.truK Dic.pl (EV.var 0))) (fun h2 => HT.ret (EV.isNon (EV.var 2) fun F v x h => by rw [show v = V.str x from h]; exact fun z => nomatch z) ?_) (fun h2 => HT.ret (EV.inN Dic.pl hu (EV.var 2) (EV.var 0)) ?_)
  · show Rs.ok _ = Rs.ok _
    rw [Bool.not_not, he] at h2
    unfold fitsB
    dsimp only
    rw [h, if_neg (by decide), if_pos (of_decide_eq_true h2)]
  · show Rs.ok _ = Rs.ok _
    rw [Bool.not_not, he] at h2
    unfold fitsB
    dsimp only
    rw [h, if_neg (by decide), if_neg (of_decide_eq_false h2)]
    cases o with
    | none => rfl
    | some q =>
      show _ = Rs.ok (im rB (kget (kvS l) (Sum.inr q)).isSome)
      rw [kget_some]; rfl
abbrev nChecked : List Str := ["areas", "parents", "name", "parent"]
theorem scChecked : FnScope nChecked ["areas"] (defScope sChecked) := ⟨rfl, rfl, rfl, by decide +kernel, rfl, by decide +kernel, by decide +kernel⟩
theorem fb {n : Nat} (a b : Nat) (ha : a ≤ 1000) (hb : b ≤ 1000) (hn : n ≤ 1000) : a + (n + (b + 0)) ≤ sizeLine := by
  rw [sizeLine_eq]; omega
def AreasOk (l : Ar) : Prop := l.length ≤ 1000 ∧ ∀ p ∈ l, p.1.length ≤ 1000
def spChecked (CP : Addr) : Sp := spX (ι := Ar) (fun i => [mk (rL rArea) i]) AreasOk (fun i => if treeB i then .ok (im (rDK (rO rS)) (kvS i)) else .err CP)
theorem ok_checked {f : Addr} {fd : FuncData} (F : Fun K "checked_parents" "checked_parents" sChecked f fd) (T : Tp K mg CP CU CT) (T1 : Kn P w K mg base 2 "area_fits" ["parents", "name", "parent"] spFits) : FnOk P w K mg base (L2N.CX P w) 3 f fd ["areas"] (spChecked CP) := by
  refine fn_ok F scChecked (fun _ => rfl) fun l B cdv A' outer s H E ⟨hl, hn⟩ hr hE => ?_
  have tk : L2N.Takes (cxOf (L2N.CX P w) P w K mg base nChecked "checked_parents" (defScope sChecked) f cdv A' outer s H E) (fun cls d _ H => E cls d H) := L2N.takes_of rfl rfl rfl rfl
  have hu := u1 hr
  have nd := scChecked.nd
  conv => arg 5; whnf
  show HT _ _ _ [some (im (rL rArea) l), none, none, none] _
  have bad : treeB l = false → ∀ C', Rs.err CP = Rs.err C' → (if treeB l then Rs.ok (im (rDK (rO rS)) (kvS l)) else Rs.err CP) = Rs.err C' := fun h C' e => by rw [h]; exact e
  refine HT.set 1 (EV.dict0 (S := rO rS)) ?_ nd
  refine HT.for (IV.list (EV.var 0)) (fun k Γ => Γ = [some (im (rL rArea) l), some (owD (rO rS) (kvS (l.take k))), none, none] ∧ seqB [] (l.take k) = true) ⟨rfl, rfl⟩ ?_ ?_ (passes_of rfl)
  · rintro b' i y Γ' hb hi ⟨⟨z, o⟩, hx, rfl⟩ ⟨rfl, hseq⟩
    have hz : z.length ≤ 1000 := hn _ (List.mem_of_getElem? hx)
    have ht1 : l.take (i + 1) = l.take i ++ [(z, o)] := by rw [List.take_add_one, hx]; rfl
    refine ⟨_, GV.pair (R := rS) (S := rO rS) (c := (z, o)) (GsV.cons (GV.name 2 nd) (GsV.cons (GV.name 3 nd) GsV.nil)), ?_⟩
    refine HT.when (TV.not (TV.val (EV.lendD 1 rfl NoL.bool (EV.call (i := (l.take i, z, o)) T1 (hr.mono (by decide)) tk (AV.cons (EV.var 1) (AV.cons (EV.var 2) (AV.cons (EV.var 3) AV.nil))) hz rfl)))) (fun h => ?_) (fun h => ?_)
    · refine HT.raise T.ep tk (EV.fstr (JV.str (JV.txt (EV.var 2) (Nat.le_trans hz (by decide)) (JV.str JV.nil))) (fb _ _ (by decide) (by decide) hz)) fun σ F H' ⟨l', _, d⟩ => hE CP (bad ?_ _ rfl) H' (hb ▸ d.eb)
      unfold treeB
      have hf : fitsB ((l.take i).map (·.1)) z o = false := by simpa using h
      have : seqB [] l = false := by
        conv => lhs; rw [← List.take_append_drop (i + 1) l, ht1, seqB_app, seqB_app, hseq]
        show (true && (fitsB ([] ++ (l.take i).map (·.1)) z o && true) && _) = false
        rw [List.nil_append, hf]; rfl
      rw [this]; rfl
    · have hf : fitsB ((l.take i).map (·.1)) z o = true := by simpa using h
      have hnew : z ∉ (l.take i).map (·.1) := by
        intro q
        unfold fitsB at hf
        rw [if_pos (by rw [decide_eq_true q, Bool.or_true])] at hf
        cases hf
      refine HT.putK (k := Sum.inr z) 1 rfl hu (EV.var 3) (EV.var 2) (fun F v h => h) (by show (kvS (l.take i)).length < 100000; unfold kvS; rw [List.length_map, List.length_take]; omega) ?_
      rw [kput_new _ _ _ hnew, ← ht1]
      refine HT.done (by repeat (first | exact Le.nil | apply Le.keep | apply Le.drop)) ⟨rfl, ?_⟩
      rw [ht1, seqB_app, hseq]
      show (true && (fitsB ([] ++ (l.take i).map (·.1)) z o && true)) = true
      rw [List.nil_append, hf]; rfl
  · rintro Γ' ⟨rfl, hseq⟩
    rw [List.take_length] at hseq ⊢
    refine HT.when (TV.lendD 1 rfl (TV.not (TV.truK Dic.pl (EV.var 1)))) (fun h => ?_) (fun h => ?_)
    · refine HT.raise T.ep tk (EV.strAny EV.str) fun σ F H' ⟨l', _, d⟩ => hE CP (bad ?_ _ rfl) H' d.eb
      unfold treeB
      cases l with
      | nil => rfl
      | cons a r =>
        have h : (!!false) = true := h
        exact absurd h (by decide)
    · refine HT.lkD 1 rfl ?_
      refine HT.ret (EV.var 1) ?_
      show _ = Rs.ok _
      have : treeB l = true := by
        unfold treeB
        rw [hseq]
        cases l with
        | nil => exact absurd h (by decide)
        | cons a r => rfl
      show (if treeB l then _ else _) = _
      rw [if_pos this]
end
end K1

namespace K1
open PySem L2 Evl Lg PyProof.Rows
abbrev sUInit : Stmt := inClass (topS 2) 0
abbrev sTree (i : Nat) : Stmt := inClass (topS 12) i
section
variable {P : Program} {w : World} {K : PySem.W.Frag} {mg : Str → Option Value} {base : Heap} {CP CU CT CB : Addr}
theorem scUInit : FnScope ["self", "name"] ["self", "name"] (defScope sUInit) := ⟨rfl, rfl, rfl, by decide +kernel, rfl, by decide +kernel, by decide +kernel⟩
theorem ok_uinit {f : Addr} {fd : FuncData} (F : Fun K "__init__" "UnknownName.__init__" sUInit f fd) (T : OexC K CU) (TB : BasC K mg "CellguardError" CB) (hno : PySem.W.findIn K (.ref CU) "name" = some none) :
    FnOk P w K mg base (L2N.CX P w) 1 f fd ["self", "name"] (fun vs H Q _ => ∃ (a : Addr) (z : Str), vs = [.ref a, .str z] ∧ z.length ≤ 1000 ∧ H a = some (exo a CU none) ∧ ∀ dx, H dx = none → dx ≠ a → Q .non (upd (upd H dx (exd dx [("name", .str z)])) a (exo a CU (some dx)))) := by
  refine okN F scUInit (fun vs H Q E ⟨a, z, e, _⟩ => by rw [e]; rfl) fun cdv A' outer s H vs Q E hr ⟨a, z, hv, hz, ha, k⟩ => ⟨_, pss_w, ?_⟩
  rw [hv]
  conv => arg 2; whnf
  show wS _ _ _ [some (.ref a), some (.str z)] H
  refine wS.of (pss_cons (ps_expr (pe_basinit TB (pa_cons (pe_var (i := 0) rfl (Or.inl rfl) (by decide) (by decide)) (pa_cons (pe_joined (PJ.cons (pe_fmt (pe_var (i := 1) rfl (Or.inl rfl) (by decide) (by decide))) (PJ.cons pe_str PJ.nil))) pa_nil))) rfl) (pss_one (ps_ost (pe_var (i := 0) rfl (Or.inl rfl) (by decide) (by decide)) (pe_var (i := 1) rfl (Or.inl rfl) (by decide) (by decide))))) ?_
  have hz' : z.length ≤ sizeLine := Nat.le_trans hz (by decide)
  refine ⟨_, rfl, _, rfl, .inl ⟨z, rfl, hz', z, rfl, ?_, _, rfl, ?_, a, CU, _, rfl, ?_, T, ha, ?_⟩⟩
  · rw [str_app_len, show Str.empty.length = 0 from rfl]; omega
  · rw [str_app_len, str_app_len, show Str.empty.length = 0 from rfl, sizeLine_eq]
    show 0 + z.length + 13 ≤ _
    omega
  · show 1 ≤ 1000; decide
  · exact ⟨_, rfl, _, rfl, a, CU, rfl, T, hno, .inl ⟨ha, fun dx hd hne => k dx hd hne⟩⟩
end
end K1

namespace K1
open PySem L2 Evl Lg PyProof.Rows
structure Tt (K : PySem.W.Frag) (CT : Addr) : Prop where
  c : Cls K CT
  nP : NoAttr K CT "_parents"
  nC : NoAttr K CT "_children"
  nR : NoAttr K CT "root"
/-- the areas that an area is the parent of -/
def kids (y : Ar) (n : Str) : List Str := (y.filter fun q => decide (q.2 = some n)).map (·.1)
def chil (y : Ar) : List (Str × List Str) := y.map fun p => (p.1, kids y p.1)
def rootOf (y : Ar) : Str := (y.headD ("", none)).1
def parOf (y : Ar) (n : Str) : Option Str := ((y.find? fun p => decide (p.1 = n)).map (·.2)).getD none
def leavesOf (y : Ar) : List Str := (y.map (·.1)).filter fun n => (kids y n).isEmpty
def treeF (y : Ar) : List (Str × Im) := [("_parents", mk (rDK (rO rS)) (kvS y)), ("_children", mk (rDK (rLK rS)) (kvS (chil y))), ("root", mk rS (rootOf y))]
abbrev rTree (CT : Addr) : Rl Ar := rObj CT treeF
theorem par_get {y : Ar} {n : Str} (h : n ∈ y.map (·.1)) : kget (kvS y) (Sum.inr n) = some (parOf y n) := by
  have q := kget_some y n
  rw [decide_eq_true h] at q
  rw [kget_kvS] at q ⊢
  unfold parOf
  cases z : (y.find? fun p => decide (p.1 = n)).map (·.2) with
  | none => rw [z] at q; cases q
  | some o => rfl
theorem chil_find (y : Ar) (n : Str) : ∀ l : Ar, ((l.map fun p => (p.1, kids y p.1)).find? fun p => decide (p.1 = n)).map (·.2) = if n ∈ l.map (·.1) then some (kids y n) else none := by
  intro l
  induction l with
  | nil => simp
  | cons p l ih =>
    rw [List.map_cons, List.find?_cons]
    by_cases h : p.1 = n
    · subst h; simp
    · have h' : ¬ n = p.1 := fun z => h z.symm
      rw [decide_eq_false (show ¬ (p.1, kids y p.1).1 = n from h)]
      dsimp only
      rw [ih, show (p :: l).map (·.1) = p.1 :: l.map (·.1) from rfl]
      by_cases hm : n ∈ l.map (·.1)
      · rw [if_pos hm, if_pos (List.mem_cons_of_mem _ hm)]
      · rw [if_neg hm, if_neg fun q => (List.mem_cons.mp q).elim h' hm]
theorem kid_get {y : Ar} {n : Str} (h : n ∈ y.map (·.1)) : kget (kvS (chil y)) (Sum.inr n) = some (kids y n) := by
  rw [kget_kvS]
  unfold chil
  rw [chil_find, if_pos h]
theorem kidLen (y : Ar) (n : Str) : (kids y n).length ≤ y.length := by
  unfold kids
  rw [List.length_map]
  exact List.length_filter_le _ _
theorem HT.chk {X : Cx} {b : Bs} {D : EndC} {Γ : Lg.Ctx} {e : Expr} {pos : Pos} {rest : List Stmt} {known : Prop} [Decidable known] (h1 : known → EV X b Γ e (im rU ())) (h2 : ¬ known → EV X b Γ e noS) (k : known → HT X b D Γ rest) (hs : swapsWith e none pos.line X.env = pure false := by rfl) : HT X b D Γ (.Expr e pos :: rest) := by
  by_cases h : known
  · exact HT.expr (h1 h) (k h) hs
  · exact HT.exprNo (h2 h) hs
section
variable {P : Program} {w : World} {K : PySem.W.Frag} {mg : Str → Option Value} {base : Heap} {CP CU CT CB : Addr}
/-! _check -/
theorem scCheck : FnScope ["self", "name"] ["self", "name"] (defScope (sTree 8)) := ⟨rfl, rfl, rfl, by decide +kernel, rfl, by decide +kernel, by decide +kernel⟩
def knownR (CU : Addr) (y : Ar) (n : Str) (s : Sl) : Ry := if n ∈ y.map (·.1) then .ok s else .errF CU [("name", .str n)]
theorem known_ok {y : Ar} {n : Str} {s : Sl} (hk : n ∈ y.map (·.1)) (s' : Sl) (h : knownR CU y n s = .ok s') : s' = s := by
  unfold knownR at h; rw [if_pos hk] at h; cases h; rfl
theorem known_err {y : Ar} {n : Str} {s : Sl} {C : Addr} (h : knownR CU y n s = .err C) : False := by
  unfold knownR at h; split at h <;> cases h
theorem known_noF {y : Ar} {n : Str} {s : Sl} {C : Addr} {fs : List (Str × V)} (hk : n ∈ y.map (·.1)) (h : knownR CU y n s = .errF C fs) : False := by
  unfold knownR at h; rw [if_pos hk] at h; cases h
theorem unk_ok {y : Ar} {n : Str} {s s' : Sl} (hk : n ∉ y.map (·.1)) (h : knownR CU y n s = .ok s') : False := by
  unfold knownR at h; rw [if_neg hk] at h; cases h
theorem unk_eq {y : Ar} {n : Str} {s : Sl} (hk : n ∉ y.map (·.1)) : knownR CU y n s = .errF CU [("name", .str n)] := if_neg hk
theorem unkF {b : Bs} {Γ : Lg.Ctx} {W : WX} {y : Ar} {n : Str} {s : Sl} {C : Addr} {fs : List (Str × V)} (hk : n ∉ y.map (·.1)) (h : knownR CU y n s = .errF C fs) (q : XwF b Γ W CU [("name", .str n)]) : XwF b Γ W C fs := by
  unfold knownR at h; rw [if_neg hk] at h; cases h; exact q
def spCheck (CT CU : Addr) : Sp := spY (ι := Ar × Str) (fun i => [mk (rTree CT) i.1, mk rS i.2]) (fun i => i.2.length ≤ 1000) (fun i => knownR CU i.1 i.2 (im rU ()))
theorem ok_check {f : Addr} {fd : FuncData} (F : Fun K "_check" "AreaTree._check" (sTree 8) f fd) (T : Tt K CT) (TU : FldC P w K mg base 1 "UnknownName" "name" CU) : FnOk P w K mg base (L2N.CX P w) 3 f fd ["self", "name"] (spCheck CT CU) := by
  refine fn_okY F scCheck (fun _ => rfl) fun ⟨y, z⟩ B cdv A' outer s H E hp hr hE hF => ?_
  have hp : z.length ≤ 1000 := hp
  have hu := u1 hr
  have tk : L2N.Takes (cxOf (L2N.CX P w) P w K mg base ["self", "name"] "AreaTree._check" (defScope (sTree 8)) f cdv A' outer s H E) (fun cls d _ H => E cls d H) := L2N.takes_of rfl rfl rfl rfl
  conv => arg 5; whnf
  show HT _ _ _ [some (im (rTree CT) y), some (im rS z)] _
  refine HT.when (TV.ninK (k := Sum.inr z) Dic.lk hu (EV.var 1) (fun F v h => h) (EV.fld (fs := treeF) (x := y) T.c (EV.var 0) rfl T.nP)) (fun h => ?_) (fun h => HT.nil ?_)
  · rw [kget_some] at h
    refine HT.raiseF TU hr tk (EV.var 1) hp fun σ F H' d ⟨l', _, dd⟩ hd => hF CU _ ?_ H' d dd.eb hd
    show knownR CU y z _ = _
    unfold knownR
    rw [if_neg (by simpa using h)]
  · rw [kget_some] at h
    show knownR CU y z _ = _
    unfold knownR
    rw [if_pos (by simpa using h)]
/-! names, parent, children, is_leaf, leaves -/
theorem scNames : FnScope ["self"] ["self"] (defScope (sTree 1)) := ⟨rfl, rfl, rfl, by decide +kernel, rfl, by decide +kernel, by decide +kernel⟩
def spNames (CT : Addr) : Sp := spX (ι := Ar) (fun i => [mk (rTree CT) i]) (fun _ => True) (fun i => .ok (ow rS (i.map (·.1))))
theorem ok_names {f : Addr} {fd : FuncData} (F : Fun K "names" "AreaTree.names" (sTree 1) f fd) (T : Tt K CT) (hl : mg "list" = none) : FnOk P w K mg base (L2N.CX P w) 1 f fd ["self"] (spNames CT) := by
  refine fn_ok F scNames (fun _ => rfl) fun y B cdv A' outer s H E _ hr _ => ?_
  conv => arg 5; whnf
  show HT _ _ _ [some (im (rTree CT) y)] _
  exact HT.ret (EV.listK Dic.lk (AV.cons (EV.fld (fs := treeF) (x := y) T.c (EV.var 0) rfl T.nP) AV.nil) (kvS_ks y) hl) rfl
theorem scParent : FnScope ["self", "name"] ["self", "name"] (defScope (sTree 2)) := ⟨rfl, rfl, rfl, by decide +kernel, rfl, by decide +kernel, by decide +kernel⟩
def spOf (CT CU : Addr) (r : Ar → Str → Sl) : Sp := spY (ι := Ar × Str) (fun i => [mk (rTree CT) i.1, mk rS i.2]) (fun i => i.2.length ≤ 1000 ∧ AreasOk i.1) (fun i => knownR CU i.1 i.2 (r i.1 i.2))
theorem ok_parent {f : Addr} {fd : FuncData} (F : Fun K "parent" "AreaTree.parent" (sTree 2) f fd) (T : Tt K CT) (TC : KnM P w K mg base 3 CT "_check" ["self", "name"] (spCheck CT CU)) : FnOk P w K mg base (L2N.CX P w) 4 f fd ["self", "name"] (spOf CT CU fun y n => im (rO rS) (parOf y n)) := by
  refine fn_okY F scParent (fun _ => rfl) fun ⟨y, z⟩ B cdv A' outer s H E ⟨hz, hA⟩ hr hE hF => ?_
  have hz : z.length ≤ 1000 := hz
  have hu := u1 hr
  have tk : L2N.Takes (cxOf (L2N.CX P w) P w K mg base ["self", "name"] "AreaTree.parent" (defScope (sTree 2)) f cdv A' outer s H E) (fun cls d _ H => E cls d H) := L2N.takes_of rfl rfl rfl rfl
  conv => arg 5; whnf
  show HT _ _ _ [some (im (rTree CT) y), some (im rS z)] _
  refine HT.chk (known := z ∈ y.map (·.1)) (fun hk => EV.methY (i := (y, z)) TC hr tk (EV.var 0) (fun F v h => rObj.no h rfl) (AV.cons (EV.var 1) AV.nil) rfl hz (known_ok hk) (fun C h => (known_err h).elim) (fun C fs h => (known_noF hk h).elim))
    (fun hk => EV.methY (i := (y, z)) TC hr tk (EV.var 0) (fun F v h => rObj.no h rfl) (AV.cons (EV.var 1) AV.nil) rfl hz (fun s' h => (unk_ok hk h).elim) (fun C h => (known_err h).elim) (fun C fs h => unkF hk h fun σ F H' d ⟨l', _, dd⟩ hd => hF CU _ (unk_eq hk) H' d dd.eb hd)) fun hk => ?_
  exact HT.ret (EV.getK (k := Sum.inr z) Dic.lk hu (EV.fld (fs := treeF) (x := y) T.c (EV.var 0) rfl T.nP) (EV.var 1) (fun F v h => h) (par_get hk)) (if_pos hk)
theorem scChildren : FnScope ["self", "name"] ["self", "name"] (defScope (sTree 3)) := ⟨rfl, rfl, rfl, by decide +kernel, rfl, by decide +kernel, by decide +kernel⟩
theorem ok_children {f : Addr} {fd : FuncData} (F : Fun K "children" "AreaTree.children" (sTree 3) f fd) (T : Tt K CT) (hl : mg "list" = none) (TC : KnM P w K mg base 3 CT "_check" ["self", "name"] (spCheck CT CU)) : FnOk P w K mg base (L2N.CX P w) 4 f fd ["self", "name"] (spOf CT CU fun y n => ow rS (kids y n)) := by
  refine fn_okY F scChildren (fun _ => rfl) fun ⟨y, z⟩ B cdv A' outer s H E ⟨hz, hA⟩ hr hE hF => ?_
  have hz : z.length ≤ 1000 := hz
  have hu := u1 hr
  have tk : L2N.Takes (cxOf (L2N.CX P w) P w K mg base ["self", "name"] "AreaTree.children" (defScope (sTree 3)) f cdv A' outer s H E) (fun cls d _ H => E cls d H) := L2N.takes_of rfl rfl rfl rfl
  conv => arg 5; whnf
  show HT _ _ _ [some (im (rTree CT) y), some (im rS z)] _
  refine HT.chk (known := z ∈ y.map (·.1)) (fun hk => EV.methY (i := (y, z)) TC hr tk (EV.var 0) (fun F v h => rObj.no h rfl) (AV.cons (EV.var 1) AV.nil) rfl hz (known_ok hk) (fun C h => (known_err h).elim) (fun C fs h => (known_noF hk h).elim))
    (fun hk => EV.methY (i := (y, z)) TC hr tk (EV.var 0) (fun F v h => rObj.no h rfl) (AV.cons (EV.var 1) AV.nil) rfl hz (fun s' h => (unk_ok hk h).elim) (fun C h => (known_err h).elim) (fun C fs h => unkF hk h fun σ F H' d ⟨l', _, dd⟩ hd => hF CU _ (unk_eq hk) H' d dd.eb hd)) fun hk => ?_
  exact HT.ret (EV.listLK (L := rLK rS) Lis.lk (AV.cons (EV.getK (k := Sum.inr z) Dic.lk hu (EV.fld (fs := treeF) (x := y) T.c (EV.var 0) rfl T.nC) (EV.var 1) (fun F v h => h) (kid_get hk)) AV.nil) hl) (if_pos hk)
theorem scIsLeaf : FnScope ["self", "name"] ["self", "name"] (defScope (sTree 6)) := ⟨rfl, rfl, rfl, by decide +kernel, rfl, by decide +kernel, by decide +kernel⟩
theorem ok_isLeaf {f : Addr} {fd : FuncData} (F : Fun K "is_leaf" "AreaTree.is_leaf" (sTree 6) f fd) (T : Tt K CT) (TC : KnM P w K mg base 3 CT "_check" ["self", "name"] (spCheck CT CU)) : FnOk P w K mg base (L2N.CX P w) 4 f fd ["self", "name"] (spOf CT CU fun y n => im rB (kids y n).isEmpty) := by
  refine fn_okY F scIsLeaf (fun _ => rfl) fun ⟨y, z⟩ B cdv A' outer s H E ⟨hz, hA⟩ hr hE hF => ?_
  have hz : z.length ≤ 1000 := hz
  have hu := u1 hr
  have tk : L2N.Takes (cxOf (L2N.CX P w) P w K mg base ["self", "name"] "AreaTree.is_leaf" (defScope (sTree 6)) f cdv A' outer s H E) (fun cls d _ H => E cls d H) := L2N.takes_of rfl rfl rfl rfl
  conv => arg 5; whnf
  show HT _ _ _ [some (im (rTree CT) y), some (im rS z)] _
  refine HT.chk (known := z ∈ y.map (·.1)) (fun hk => EV.methY (i := (y, z)) TC hr tk (EV.var 0) (fun F v h => rObj.no h rfl) (AV.cons (EV.var 1) AV.nil) rfl hz (known_ok hk) (fun C h => (known_err h).elim) (fun C fs h => (known_noF hk h).elim))
    (fun hk => EV.methY (i := (y, z)) TC hr tk (EV.var 0) (fun F v h => rObj.no h rfl) (AV.cons (EV.var 1) AV.nil) rfl hz (fun s' h => (unk_ok hk h).elim) (fun C h => (known_err h).elim) (fun C fs h => unkF hk h fun σ F H' d ⟨l', _, dd⟩ hd => hF CU _ (unk_eq hk) H' d dd.eb hd)) fun hk => ?_
  exact HT.ret (EV.notL (L := rLK rS) Lis.lk (EV.getK (k := Sum.inr z) Dic.lk hu (EV.fld (fs := treeF) (x := y) T.c (EV.var 0) rfl T.nC) (EV.var 1) (fun F v h => h) (kid_get hk))) (if_pos hk)
abbrev nLeaves : List Str := ["self", "name"]
theorem scLeaves : FnScope nLeaves ["self"] (defScope (sTree 4)) := ⟨rfl, rfl, rfl, by decide +kernel, rfl, by decide +kernel, by decide +kernel⟩
def spLeaves (CT : Addr) : Sp := spX (ι := Ar) (fun i => [mk (rTree CT) i]) AreasOk (fun i => .ok (ow rS (leavesOf i)))
theorem ok_leaves {f : Addr} {fd : FuncData} (F : Fun K "leaves" "AreaTree.leaves" (sTree 4) f fd) (T : Tt K CT) : FnOk P w K mg base (L2N.CX P w) 1 f fd ["self"] (spLeaves CT) := by
  refine fn_ok F scLeaves (fun _ => rfl) fun y B cdv A' outer s H E hA hr _ => ?_
  have hA : AreasOk y := hA
  have hu := u1 hr
  have nd := scLeaves.nd
  conv => arg 5; whnf
  show HT _ _ _ [some (im (rTree CT) y), none] _
  refine HT.ret (LV.ev (LV.lcL1 (j := 1) (S := rS) (fun n : Str => (kids y n).isEmpty) (fun n : Str => n) (IV.keys (EV.fld (fs := treeF) (x := y) T.c (EV.var 0) rfl T.nP) (kvS_ks y)) nd (by show blkC nLeaves (defScope (sTree 4)) _ [("name", 1)] = true; decide +kernel) (by rw [List.length_map]; exact Nat.le_trans hA.1 (by decide)) (fun b' i a s H0 C cl fp hb ha => ?_) (fun b' i a s H0 C cl fp hb ha hne => EV.var 1) (fun _ _ _ _ _ => pg_name nd rfl (Or.inl rfl)))) ?_
  · have hk : a ∈ y.map (·.1) := List.mem_of_getElem? ha
    exact (TV.not (TV.truL (L := rLK rS) Lis.lk (EV.getK (k := Sum.inr a) Dic.lk hu (EV.fld (fs := treeF) (x := y) T.c (EV.var 0) rfl T.nC) (EV.var 1) (fun F v h => h) (kid_get hk)))).cast (Bool.not_not _)
  · show Rs.ok _ = Rs.ok _
    rw [List.map_id']; rfl
end
end K1

namespace K1
open PySem L2 Evl Lg PyProof.Rows
/-! leaves_below -/
def bstep (y : Ar) (l : List Str) (a : Str) : List Str := if mem? l (parOf y a) then (if a ∈ l then l else l ++ [a]) else l
def belowL (y : Ar) (n : Str) : List Str := (y.map (·.1)).foldl (bstep y) [n]
def yes (l : List Str) : List (Str × Bool) := l.map fun s => (s, true)
theorem yes_keys (l : List Str) : (yes l).map (·.1) = l := by
  unfold yes
  rw [List.map_map]
  exact List.map_id' l
theorem yes_put (l : List Str) (a : Str) : kput (kvS (yes l)) (Sum.inr a) true = kvS (yes (if a ∈ l then l else l ++ [a])) := by
  by_cases h : a ∈ l
  · rw [if_pos h]
    unfold kput
    rw [if_pos (List.any_eq_true.mpr ⟨(Sum.inr a, true), by
      unfold kvS yes
      rw [List.map_map]
      exact List.mem_map.mpr ⟨a, h, rfl⟩, decide_eq_true rfl⟩)]
    unfold kvS yes
    simp only [List.map_map]
    refine List.map_congr_left fun s _ => ?_
    show (if (Sum.inr s : Key) = Sum.inr a then ((Sum.inr s : Key), true) else (Sum.inr s, true)) = (Sum.inr s, true)
    split <;> rfl
  · rw [if_neg h, kput_new _ _ _ (by rw [yes_keys]; exact h)]
    unfold yes
    rw [List.map_append]; rfl
theorem yes_ink (l : List Str) (o : Option Str) : ink (kvS (yes l)) o = mem? l o := by
  cases o with
  | none => rfl
  | some s =>
    show (kget (kvS (yes l)) (Sum.inr s)).isSome = decide (s ∈ l)
    rw [kget_some, yes_keys]
theorem bstep_len (y : Ar) (l : List Str) (a : Str) : (bstep y l a).length ≤ l.length + 1 := by
  unfold bstep
  split
  · split
    · omega
    · rw [List.length_append]; exact Nat.le_refl _
  · omega
theorem fold_len (y : Ar) : ∀ (as l : List Str), (as.foldl (bstep y) l).length ≤ l.length + as.length
  | [], l => Nat.le_refl _
  | a :: as, l => by
    have h1 := fold_len y as (bstep y l a)
    have h2 := bstep_len y l a
    rw [List.foldl_cons, List.length_cons]; omega
section
variable {P : Program} {w : World} {K : PySem.W.Frag} {mg : Str → Option Value} {base : Heap} {CP CU CT CB : Addr}
abbrev nBelow : List Str := ["self", "name", "below", "area", "leaf"]
theorem scBelow : FnScope nBelow ["self", "name"] (defScope (sTree 5)) := ⟨rfl, rfl, rfl, by decide +kernel, rfl, by decide +kernel, by decide +kernel⟩
theorem ok_below {f : Addr} {fd : FuncData} (F : Fun K "leaves_below" "AreaTree.leaves_below" (sTree 5) f fd) (T : Tt K CT) (TC : KnM P w K mg base 3 CT "_check" ["self", "name"] (spCheck CT CU)) (TL : KnM P w K mg base 1 CT "leaves" ["self"] (spLeaves CT)) :
    FnOk P w K mg base (L2N.CX P w) 4 f fd ["self", "name"] (spOf CT CU fun y n => ow rS ((leavesOf y).filter fun x => decide (x ∈ belowL y n))) := by
  refine fn_okY F scBelow (fun _ => rfl) fun ⟨y, z⟩ B cdv A' outer s H E ⟨hz, hA⟩ hr hE hF => ?_
  have hz : z.length ≤ 1000 := hz
  have hA : AreasOk y := hA
  have hu := u1 hr
  have nd := scBelow.nd
  have tk : L2N.Takes (cxOf (L2N.CX P w) P w K mg base nBelow "AreaTree.leaves_below" (defScope (sTree 5)) f cdv A' outer s H E) (fun cls d _ H => E cls d H) := L2N.takes_of rfl rfl rfl rfl
  conv => arg 5; whnf
  show HT _ _ _ [some (im (rTree CT) y), some (im rS z), none, none, none] _
  refine HT.chk (known := z ∈ y.map (·.1)) (fun hk => EV.methY (i := (y, z)) TC hr tk (EV.var 0) (fun F v h => rObj.no h rfl) (AV.cons (EV.var 1) AV.nil) rfl hz (known_ok hk) (fun C h => (known_err h).elim) (fun C fs h => (known_noF hk h).elim))
    (fun hk => EV.methY (i := (y, z)) TC hr tk (EV.var 0) (fun F v h => rObj.no h rfl) (AV.cons (EV.var 1) AV.nil) rfl hz (fun s' h => (unk_ok hk h).elim) (fun C h => (known_err h).elim) (fun C fs h => unkF hk h fun σ F H' d ⟨l', _, dd⟩ hd => hF CU _ (unk_eq hk) H' d dd.eb hd)) fun hk => ?_
  refine HT.set 2 (EV.dict1 (S := rB) (k := Sum.inr z) (y := true) (EV.var 1) (fun F v h => h) EV.bl (fun h1 h2 => pps_cons h1 h2 pps_nil)) ?_ nd
  refine HT.for (IV.keys (EV.fld (fs := treeF) (x := y) T.c (EV.var 0) rfl T.nP) (kvS_ks y)) (fun k Γ => Γ = [some (im (rTree CT) y), some (im rS z), some (owD rB (kvS (yes (((y.map (·.1)).take k).foldl (bstep y) [z])))), none, none]) rfl ?_ ?_ (passes_of rfl)
  · rintro b' i x Γ' hb hi ⟨a, ha, rfl⟩ rfl
    have hak : a ∈ y.map (·.1) := List.mem_of_getElem? ha
    have ht1 : (y.map (·.1)).take (i + 1) = (y.map (·.1)).take i ++ [a] := by rw [List.take_add_one, ha]; rfl
    have hlen : (((y.map (·.1)).take i).foldl (bstep y) [z]).length ≤ 1 + y.length := by
      have := fold_len y ((y.map (·.1)).take i) [z]
      have h2 : ((y.map (·.1)).take i).length ≤ y.length := by rw [List.length_take, List.length_map]; omega
      have h3 : [z].length = 1 := rfl
      omega
    rw [ht1, List.foldl_append, List.foldl_cons, List.foldl_nil]
    generalize ((y.map (·.1)).take i).foldl (bstep y) [z] = l at hlen
    have hA1 := hA.1
    refine ⟨_, GV.name 3 nd, ?_⟩
    refine HT.when (TV.lendD 2 rfl (TV.inN Dic.pl hu (EV.getK (k := Sum.inr a) Dic.lk hu (EV.fld (fs := treeF) (x := y) T.c (EV.var 0) rfl T.nP) (EV.var 3) (fun F v h => h) (par_get hak)) (EV.var 2))) (fun h => ?_) (fun h => ?_)
    · rw [yes_ink] at h
      rw [show bstep y l a = if a ∈ l then l else l ++ [a] from if_pos h]
      refine HT.putK (k := Sum.inr a) 2 rfl hu EV.bl (EV.var 3) (fun F v h => h) (by show (kvS (yes l)).length < 100000; unfold kvS yes; rw [List.length_map, List.length_map]; omega) ?_
      rw [yes_put]
      refine HT.nil (HT.done (by repeat (first | exact Le.nil | apply Le.keep | apply Le.drop)) rfl)
    · rw [yes_ink] at h
      rw [show bstep y l a = l from if_neg (by rw [h]; decide)]
      exact HT.done (by repeat (first | exact Le.nil | apply Le.keep | apply Le.drop)) rfl
  · rintro Γ' rfl
    rw [List.take_length]
    show HT _ _ _ [some (im (rTree CT) y), some (im rS z), some (owD rB (kvS (yes (belowL y z)))), none, none] _
    refine HT.lkD 2 rfl ?_
    refine HT.ret (LV.ev (LV.lcL1 (j := 4) (S := rS) (fun n : Str => decide (n ∈ belowL y z)) (fun n : Str => n) (IV.list (EV.fz (EV.meth0 (i := y) TL (hr.mono (by decide)) tk (EV.var 0) (fun F v h => rObj.no h rfl) rfl hA rfl))) nd (by show blkC nBelow (defScope (sTree 5)) _ [("leaf", 4)] = true; decide +kernel) (by
      have : (leavesOf y).length ≤ (y.map (·.1)).length := List.length_filter_le _ _
      rw [List.length_map] at this
      exact Nat.le_trans this (Nat.le_trans hA.1 (by decide))) (fun b' i a s H0 C cl fp hb ha => ?_) (fun b' i a s H0 C cl fp hb ha hne => EV.var 4) (fun _ _ _ _ _ => pg_name nd rfl (Or.inl rfl)))) ?_
    · exact (TV.inK (k := Sum.inr a) Dic.lk hu (EV.var 4) (fun F v h => h) (EV.var 2)).cast (by rw [kget_some, yes_keys])
    · show knownR CU y z _ = _
      rw [List.map_id']
      exact if_pos hk
end
end K1

namespace K1
open PySem L2 Evl Lg PyProof.Rows
/-! level -/
def lev (y : Ar) : Nat → Option Str → Int
  | _, none => 0
  | 0, _ => 0
  | k + 1, some a => 1 + lev y k (parOf y a)
def levelOf (y : Ar) (n : Str) : Int := lev y y.length (parOf y n)
theorem seq_at : ∀ {y : Ar} {seen : List Str} {j : Nat} {a : Str} {q : Option Str}, seqB seen y = true → y[j]? = some (a, q) → fitsB (seen ++ (y.take j).map (·.1)) a q = true
  | [], _, _, _, _, _, h => by simp at h
  | (n, p) :: r, seen, 0, a, q, hs, h => by
    have h : some (n, p) = some (a, q) := h
    cases h
    have hs : (fitsB seen n p && seqB (seen ++ [n]) r) = true := hs
    rw [List.take_zero, List.map_nil, List.append_nil]
    exact (Bool.and_eq_true_iff.mp hs).1
  | (n, p) :: r, seen, j + 1, a, q, hs, h => by
    have hs : (fitsB seen n p && seqB (seen ++ [n]) r) = true := hs
    have := seq_at (Bool.and_eq_true_iff.mp hs).2 (show r[j]? = some (a, q) from h)
    rwa [List.append_assoc] at this
theorem tree_seq {y : Ar} (h : treeB y = true) : seqB [] y = true := (Bool.and_eq_true_iff.mp h).1
theorem fits_new {ns : List Str} {n : Str} {o : Option Str} (h : fitsB ns n o = true) : n ∉ ns ∧ (o = none ∨ ∃ p, o = some p ∧ p ∈ ns) := by
  unfold fitsB at h
  split at h
  · cases h
  · rename_i q
    refine ⟨fun z => q (by rw [decide_eq_true z, Bool.or_true]), ?_⟩
    split at h
    · left; exact Option.isNone_iff_eq_none.mp h
    · cases o with
      | none => exact .inl rfl
      | some p => exact .inr ⟨p, rfl, of_decide_eq_true h⟩
theorem tree_at {y : Ar} (h : treeB y = true) {j : Nat} {a : Str} {q : Option Str} (hj : y[j]? = some (a, q)) : parOf y a = q := by
  have hn := (fits_new (seq_at (tree_seq h) hj)).1
  rw [List.nil_append] at hn
  have hl : j < y.length := (List.getElem?_eq_some_iff.mp hj).1
  have e : y = y.take j ++ (a, q) :: y.drop (j + 1) := by
    conv => lhs; rw [← List.take_append_drop j y, List.drop_eq_getElem_cons hl, (List.getElem?_eq_some_iff.mp hj).2]
  unfold parOf
  have hf : (y.take j).find? (fun p => decide (p.1 = a)) = none := List.find?_eq_none.mpr fun p hp z => hn (List.mem_map.mpr ⟨p, hp, of_decide_eq_true z⟩)
  conv => lhs; rw [e]
  rw [List.find?_append, hf, List.find?_cons, decide_eq_true rfl]
  rfl
theorem tree_par {y : Ar} (h : treeB y = true) {j : Nat} {a b : Str} (hj : y[j]? = some (a, some b)) : ∃ i q, i < j ∧ y[i]? = some (b, q) := by
  rcases (fits_new (seq_at (tree_seq h) hj)).2 with z | ⟨p, e, hp⟩
  · cases z
  · cases e
    rw [List.nil_append] at hp
    obtain ⟨⟨b', q⟩, hm, rfl⟩ := List.mem_map.mp hp
    obtain ⟨i, hi⟩ := List.getElem?_of_mem hm
    have hi' : i < (y.take j).length := (List.getElem?_eq_some_iff.mp hi).1
    rw [List.length_take] at hi'
    refine ⟨i, q, by omega, ?_⟩
    rw [List.getElem?_take] at hi
    split at hi
    · exact hi
    · cases hi
section
variable {P : Program} {w : World} {K : PySem.W.Frag} {mg : Str → Option Value} {base : Heap} {CP CU CT CB : Addr}
abbrev nLevel : List Str := ["self", "name", "level", "area"]
theorem scLevel : FnScope nLevel ["self", "name"] (defScope (sTree 7)) := ⟨rfl, rfl, rfl, by decide +kernel, rfl, by decide +kernel, by decide +kernel⟩
def spLevel (CT CU : Addr) : Sp := spY (ι := Ar × Str) (fun i => [mk (rTree CT) i.1, mk rS i.2]) (fun i => i.2.length ≤ 1000 ∧ AreasOk i.1 ∧ treeB i.1 = true) (fun i => knownR CU i.1 i.2 (im rI (levelOf i.1 i.2)))
theorem ok_level {f : Addr} {fd : FuncData} (F : Fun K "level" "AreaTree.level" (sTree 7) f fd) (T : Tt K CT) (TC : KnM P w K mg base 3 CT "_check" ["self", "name"] (spCheck CT CU)) : FnOk P w K mg base (L2N.CX P w) 4 f fd ["self", "name"] (spLevel CT CU) := by
  refine fn_okY F scLevel (fun _ => rfl) fun ⟨y, z⟩ B cdv A' outer s H E ⟨hz, hA, hT⟩ hr hE hF => ?_
  have hz : z.length ≤ 1000 := hz
  have hA : AreasOk y := hA
  have hT : treeB y = true := hT
  have hu := u1 hr
  have nd := scLevel.nd
  have tk : L2N.Takes (cxOf (L2N.CX P w) P w K mg base nLevel "AreaTree.level" (defScope (sTree 7)) f cdv A' outer s H E) (fun cls d _ H => E cls d H) := L2N.takes_of rfl rfl rfl rfl
  conv => arg 5; whnf
  show HT _ _ _ [some (im (rTree CT) y), some (im rS z), none, none] _
  refine HT.chk (known := z ∈ y.map (·.1)) (fun hk => EV.methY (i := (y, z)) TC hr tk (EV.var 0) (fun F v h => rObj.no h rfl) (AV.cons (EV.var 1) AV.nil) rfl hz (known_ok hk) (fun C h => (known_err h).elim) (fun C fs h => (known_noF hk h).elim))
    (fun hk => EV.methY (i := (y, z)) TC hr tk (EV.var 0) (fun F v h => rObj.no h rfl) (AV.cons (EV.var 1) AV.nil) rfl hz (fun s' h => (unk_ok hk h).elim) (fun C h => (known_err h).elim) (fun C fs h => unkF hk h fun σ F H' d ⟨l', _, dd⟩ hd => hF CU _ (unk_eq hk) H' d dd.eb hd)) fun hk => ?_
  obtain ⟨⟨z', q0⟩, hm, hzz⟩ := List.mem_map.mp hk
  have hzz : z' = z := hzz
  subst hzz
  obtain ⟨j0, hj0⟩ := List.getElem?_of_mem hm
  have hj0l : j0 < y.length := (List.getElem?_eq_some_iff.mp hj0).1
  have stp : ∀ {j : Nat} {a : Str} {q : Option Str}, y[j]? = some (a, q) → parOf y a = none ∨ ∃ i q' b, parOf y a = some b ∧ y[i]? = some (b, q') ∧ i + 1 ≤ j := fun {j a q} hj => by
    rw [tree_at hT hj]
    cases q with
    | none => exact .inl rfl
    | some b =>
      obtain ⟨i, q', h1, h2⟩ := tree_par hT hj
      exact .inr ⟨i, q', b, rfl, h2, h1⟩
  refine HT.set 2 EV.int ?_ nd
  refine HT.set 3 (EV.getK (k := Sum.inr z') Dic.lk hu (EV.fld (fs := treeF) (x := y) T.c (EV.var 0) rfl T.nP) (EV.var 1) (fun F v h => h) (par_get hk)) ?_ nd
  refine HT.while (fun k Γ => ∃ (lv : Int) (o : Option Str), Γ = [some (im (rTree CT) y), some (im rS z'), some (im rI lv), some (im (rO rS) o)] ∧ lv + lev y k o = levelOf y z' ∧ (o = none ∨ ∃ j q a, o = some a ∧ y[j]? = some (a, q) ∧ j + 1 ≤ k)) y.length ⟨0, _, rfl, by rw [Int.zero_add]; rfl, ?_⟩ ?_ (passes_of rfl)
  · rcases stp hj0 with h | ⟨i, q', b, h1, h2, h3⟩
    · exact .inl h
    · exact .inr ⟨i, q', b, h1, h2, by omega⟩
  · rintro b' k Γ' hb ⟨lv, o, rfl, hl, ho⟩
    refine ⟨_, TV.notNon (EV.var 3) (fun F v x h => by rw [show v = V.str x from h]; exact fun z => nomatch z), fun h => ?_, fun h => ?_⟩
    · rcases ho with rfl | ⟨j, q, a, rfl, hj, hk2⟩
      · cases h
      obtain ⟨k, rfl⟩ : ∃ k', k = k' + 1 := ⟨k - 1, by omega⟩
      have hak : a ∈ y.map (·.1) := List.mem_map.mpr ⟨(a, q), List.mem_of_getElem? hj, rfl⟩
      refine HT.aug (f := fun i j => i + j) (a := lv) (c := 1) ip_add 2 rfl EV.int ?_ nd
      refine HT.set 3 (EV.getK (R := rO rS) (x := some a) (k := Sum.inr a) Dic.lk hu (EV.fld (fs := treeF) (x := y) T.c (EV.var 0) rfl T.nP) (EV.var 3) (fun F v h => h) (par_get hak)) ?_ nd
      refine HT.nil ⟨k, Nat.lt_succ_self k, lv + 1, parOf y a, rfl, ?_, ?_⟩
      · rw [← hl]
        show lv + 1 + lev y k (parOf y a) = lv + (1 + lev y k (parOf y a))
        omega
      · rcases stp hj with h | ⟨i, q', b, h1, h2, h3⟩
        · exact .inl h
        · exact .inr ⟨i, q', b, h1, h2, by omega⟩
    · refine HT.ret (EV.var 2) ?_
      cases o with
      | some a => cases h
      | none =>
        have e : lv = levelOf y z' := by
          rw [← hl]
          cases k <;> exact (Int.add_zero lv).symm
        rw [e]
        exact if_pos hk
end
end K1

namespace K1
open PySem L2 Evl Lg PyProof.Rows
def kidsAt (y : Ar) (i : Nat) : List (Str × List Str) := y.map fun p => (p.1, kids (y.take i) p.1)
def foAt (y : Ar) (i : Nat) : List (Str × Option Im) := if i = 0 then [("_parents", some (mk (rDK (rO rS)) (kvS y))), ("_children", none)] else [("_parents", some (mk (rDK (rO rS)) (kvS y))), ("_children", none), ("root", some (mk rS (rootOf y)))]
theorem kids_step {y : Ar} {i : Nat} {x : Str} {q : Option Str} (h : y[i]? = some (x, q)) (n : Str) : kids (y.take (i + 1)) n = if q = some n then kids (y.take i) n ++ [x] else kids (y.take i) n := by
  have e : y.take (i + 1) = y.take i ++ [(x, q)] := by rw [List.take_add_one, h]; rfl
  unfold kids
  rw [e, List.filter_append, List.map_append]
  by_cases z : q = some n
  · rw [if_pos z]
    simp [z]
  · rw [if_neg z]
    simp [z]
theorem kidsAt_none {y : Ar} {i : Nat} {x : Str} (h : y[i]? = some (x, none)) : kidsAt y (i + 1) = kidsAt y i := by
  unfold kidsAt
  refine List.map_congr_left fun p _ => ?_
  rw [kids_step h, if_neg fun z => nomatch z]
theorem kidsAt_some {y : Ar} {i : Nat} {x p : Str} (h : y[i]? = some (x, some p)) : ((kidsAt y i).map fun q => if q.1 = p then (q.1, q.2 ++ [x]) else q) = kidsAt y (i + 1) := by
  unfold kidsAt
  rw [List.map_map]
  refine List.map_congr_left fun r _ => ?_
  show (if r.1 = p then (r.1, kids (y.take i) r.1 ++ [x]) else (r.1, kids (y.take i) r.1)) = _
  rw [kids_step h]
  by_cases z : r.1 = p
  · rw [if_pos z, if_pos (by rw [z])]
  · rw [if_neg z, if_neg fun q => z (Option.some.inj q).symm]
theorem kidsAt_keys (y : Ar) (i : Nat) : (kidsAt y i).map (·.1) = y.map (·.1) := by
  unfold kidsAt
  rw [List.map_map]; rfl
theorem tree_nodup {y : Ar} (h : treeB y = true) : (y.map (·.1)).Nodup := by
  have key : ∀ (l : Ar) (seen : List Str), seqB seen l = true → (l.map (·.1)).Nodup ∧ ∀ n ∈ l.map (·.1), n ∉ seen := by
    intro l
    induction l with
    | nil => exact fun _ _ => ⟨List.nodup_nil, fun _ z => nomatch z⟩
    | cons p l ih =>
      intro seen hs
      have hs : (fitsB seen p.1 p.2 && seqB (seen ++ [p.1]) l) = true := hs
      obtain ⟨h1, h2⟩ := Bool.and_eq_true_iff.mp hs
      obtain ⟨k1, k2⟩ := ih _ h2
      have hp := (fits_new h1).1
      refine ⟨List.nodup_cons.mpr ⟨fun z => k2 _ z (List.mem_append_right _ (List.mem_singleton.mpr rfl)), k1⟩, fun n hn => ?_⟩
      rcases List.mem_cons.mp hn with z | z
      · rw [z]; exact hp
      · exact fun q => k2 n z (List.mem_append_left _ q)
  exact (key y [] (tree_seq h)).1
theorem tree_zero {y : Ar} (h : treeB y = true) {i : Nat} {x : Str} {q : Option Str} (hj : y[i]? = some (x, q)) : if i = 0 then q = none else ∃ p, q = some p ∧ p ∈ y.map (·.1) := by
  have hf := seq_at (tree_seq h) hj
  rw [List.nil_append] at hf
  have hi : i < y.length := (List.getElem?_eq_some_iff.mp hj).1
  split
  · rename_i z
    subst z
    unfold fitsB at hf
    split at hf
    · cases hf
    · rw [if_pos (by rfl)] at hf
      exact Option.isNone_iff_eq_none.mp hf
  · rename_i z
    unfold fitsB at hf
    split at hf
    · cases hf
    · rw [if_neg] at hf
      · cases q with
        | none => cases hf
        | some p =>
          have hp : p ∈ (y.take i).map (·.1) := of_decide_eq_true hf
          obtain ⟨r, hr, e⟩ := List.mem_map.mp hp
          exact ⟨p, rfl, List.mem_map.mpr ⟨r, List.mem_of_mem_take hr, e⟩⟩
      · intro e
        have := congrArg List.length e
        rw [List.length_map, List.length_take] at this
        have this : min i y.length = 0 := this
        omega
section
variable {P : Program} {w : World} {K : PySem.W.Frag} {mg : Str → Option Value} {base : Heap} {CP CU CT CB : Addr}
abbrev nTI : List Str := ["self", "areas", "name", "parent"]
theorem scTI : FnScope nTI ["self", "areas"] (defScope (sTree 0)) := ⟨rfl, rfl, rfl, by decide +kernel, rfl, by decide +kernel, by decide +kernel⟩
def spTI (CP CT : Addr) : Sp := spI CT (ι := Ar) (fun i => [mk (rL rArea) i]) AreasOk (rTree CT) (fun i => if treeB i then .ok i else .error CP)
theorem ok_treeInit {f : Addr} {fd : FuncData} (F : Fun K "__init__" "AreaTree.__init__" (sTree 0) f fd) (T : Tt K CT) (TK : Kn P w K mg base 3 "checked_parents" ["areas"] (spChecked CP)) : FnOk P w K mg base (L2N.CX P w) 4 f fd ["self", "areas"] (spTI CP CT) := by
  refine fn_init F scTI (fun _ => rfl) fun y B a cdv A' outer s H E hA hr hE => ?_
  have hA : AreasOk y := hA
  have hu := u1 hr
  have nd := scTI.nd
  have tk : L2N.Takes (cxOf (L2N.CX P w) P w K mg base nTI "AreaTree.__init__" (defScope (sTree 0)) f cdv A' outer s H E) (fun cls d _ H => E cls d H) := L2N.takes_of rfl rfl rfl rfl
  conv => arg 5; whnf
  show HT _ _ _ [some (ob CT a []), some (im (rL rArea) y), none, none] _
  by_cases hT : treeB y = true
  · have hres : (if treeB y then Rs.ok (im (rDK (rO rS)) (kvS y)) else Rs.err CP) = Rs.ok (im (rDK (rO rS)) (kvS y)) := if_pos hT
    have hl := hA.1
    refine HT.fld T.c 0 rfl (EV.call (i := y) TK hr tk (AV.cons (EV.var 1) AV.nil) hA hres) T.nP (by decide) ?_
    refine HT.fldDL (R := rS) (kvs := (y.map (·.1)).map fun n => (n, [])) T.c 0 rfl (EV.dcLists (j := 2) (IV.keys (EV.fldOb T.c 0 rfl rfl T.nP) (kvS_ks y)) nd (by show blkC nTI (defScope (sTree 0)) _ [("name", 2)] = true; decide +kernel) (by rw [List.length_map]; omega) (tree_nodup hT) (fun b' i x s H0 C cl fp hb hx => EV.var 2) (fun b' i x s H0 C cl fp hb hx => EV.lst (R := rS) (as := []) AV.nil rfl (by decide)) (fun _ _ _ _ _ => pg_name nd rfl (Or.inl rfl))) T.nC (by show 1 < 1000; decide) ?_
    have e0 : ((y.map (·.1)).map fun n => (n, ([] : List Str))) = kidsAt y 0 := by
      unfold kidsAt
      rw [List.map_map]; rfl
    rw [e0]
    refine HT.for (IV.keys (EV.fldO (fo := foAt y 0) T.c 0 rfl rfl T.nP) (kvS_ks y)) (fun i Γ => Γ = [some (obD CT a (foAt y i) rS (kidsAt y i)), some (im (rL rArea) y), none, none]) rfl ?_ ?_ (passes_of rfl)
    · rintro b' i yy Γ' hb hi ⟨x, hx, rfl⟩ rfl
      have hxk : x ∈ y.map (·.1) := List.mem_of_getElem? hx
      rw [List.getElem?_map] at hx
      obtain ⟨⟨x', q⟩, hy, e⟩ := Option.map_eq_some_iff.mp hx
      have e : x' = x := e
      subst e
      have hz := tree_zero hT hy
      have hpar : parOf y x' = q := tree_at hT hy
      have hil : i < y.length := (List.getElem?_eq_some_iff.mp hy).1
      have flook : (foAt y i).lookup ("_parents" : Str) = some (some (mk (rDK (rO rS)) (kvS y))) := by unfold foAt; split <;> rfl
      have clook : (foAt y i).lookup ("_children" : Str) = some none := by unfold foAt; split <;> rfl
      refine ⟨_, GV.name 2 nd, ?_⟩
      refine HT.set 3 (EV.getK (k := Sum.inr x') Dic.lk hu (EV.fldO T.c 0 rfl flook T.nP) (EV.var 2) (fun F v h => h) (par_get hxk)) ?_ nd
      rw [hpar]
      by_cases h0 : i = 0
      · subst h0
        rw [if_pos rfl] at hz
        subst hz
        refine HT.ite (TV.isNon (EV.var 3) fun F v x h => by rw [show v = V.str x from h]; exact fun z => nomatch z) (fun _ => ?_) (fun h => absurd h (by decide))
        refine HT.fldO T.c 0 rfl (EV.var 2) T.nR (by show 2 < 1000; decide) ?_
        rw [← kidsAt_none hy]
        have er : x' = rootOf y := by
          unfold rootOf
          cases y with
          | nil => cases hy
          | cons p r => cases hy; rfl
        rw [er]
        exact HT.nil (HT.done (by repeat (first | exact Le.nil | apply Le.keep | apply Le.drop)) rfl)
      · rw [if_neg h0] at hz
        obtain ⟨p, rfl, hp⟩ := hz
        refine HT.ite (TV.isNon (EV.var 3) fun F v x h => by rw [show v = V.str x from h]; exact fun z => nomatch z) (fun h => ?_) (fun _ => ?_)
        · cases h
        refine HT.appDL (p := p) (kd := some p) (T := rO rS) (z := x') T.c hu 0 rfl clook T.nC (EV.var 3) (fun F v h => h) (by rw [kidsAt_keys]; exact hp) (by rw [kidsAt_keys]; exact tree_nodup hT) (fun r hr => ?_) (EV.var 2) ?_
        · obtain ⟨r', _, rfl⟩ := List.mem_map.mp hr
          have h1 := kidLen (y.take i) r'.1
          have h2 : (y.take i).length ≤ y.length := by rw [List.length_take]; omega
          show (kids (y.take i) r'.1).length < 100000
          omega
        rw [kidsAt_some hy, show foAt y i = foAt y (i + 1) by unfold foAt; rw [if_neg h0, if_neg (Nat.succ_ne_zero i)]]
        exact HT.nil (HT.done (by repeat (first | exact Le.nil | apply Le.keep | apply Le.drop)) rfl)
    · rintro Γ' rfl
      have hne : y.length ≠ 0 := by
        intro z
        have : y = [] := List.length_eq_zero_iff.mp z
        rw [this] at hT
        exact absurd hT (by decide)
      rw [List.length_map]
      refine HT.lkO 0 rfl (HT.nil ⟨y, _, if_pos hT, rfl, ?_⟩)
      have : kidsAt y y.length = chil y := by
        unfold kidsAt chil
        rw [List.take_length]
      rw [this]
      unfold foAt
      rw [if_neg hne]
      rfl
  · have hres : (if treeB y then Rs.ok (im (rDK (rO rS)) (kvS y)) else Rs.err CP) = Rs.err CP := if_neg hT
    refine HT.fldNo 0 (EV.callR (i := y) TK hr tk (AV.cons (EV.var 1) AV.nil) hA (fun s' h => nomatch (hres.symm.trans h)) (fun C h => ?_))
    cases hres.symm.trans h
    exact fun σ F H' ⟨l', _, d⟩ => hE CP (if_neg hT) H' d.eb
end
end K1

namespace K1
open PySem L2 Evl Lg
abbrev sCell : Stmt := topS 15
abbrev sNumbers : Stmt := topS 16
def cellV (ns : List Int) (k : Int) : Int := if k < ns.length then ns.getD k.toNat 0 else 0
def absV' (i : Int) : Int := if i < 0 then -i else i
def inStep (most : Int) (p : List Int × Int) : List Int × Int := if 0 < p.2 ∧ (p.1.length : Int) < most then (p.1 ++ [p.2 % 4096], p.2 / 4096) else p
def inner (most : Int) (p : List Int × Int) : Nat → List Int × Int
  | 0 => p
  | k + 1 => inStep most (inner most p k)
def mix (c at_ : Int) : Int :=
  let m := (c * 48271 + at_ * 69621 + 12345) % 2147483647
  ((m * 69621 + m / 1009) % 1000003) % 4096
def outStep (ns : List Int) (most : Int) (found : List Int) (at_ : Int) : List Int :=
  let c := absV' (cellV ns at_)
  if 1000000000000000000 ≤ c then (inner most (found, c) 60).1 else if (found.length : Int) < most then found ++ [mix c at_] else found
def outer (ns : List Int) (first most : Int) : Nat → List Int
  | 0 => []
  | k + 1 => outStep ns most (outer ns first most k) (first + k)
def numbers (ns : List Int) (first most : Int) : List Int := outer ns first most ((ns.length : Int) - first).toNat
/-- numbers that are drawn -/
def Drawn (most : Int) (l : List Int) : Prop := (∀ x ∈ l, 0 ≤ x ∧ x < 4096) ∧ (l.length : Int) ≤ most
theorem inner_ok {most : Int} {l : List Int} {c : Int} (hm : 0 ≤ most) (h : Drawn most l) (hc : 0 ≤ c) : ∀ k, Drawn most (inner most (l, c) k).1 ∧ 0 ≤ (inner most (l, c) k).2
  | 0 => ⟨h, hc⟩
  | k + 1 => by
    obtain ⟨⟨h1, h2⟩, h3⟩ := inner_ok hm h hc k
    show Drawn most (inStep most (inner most (l, c) k)).1 ∧ 0 ≤ (inStep most (inner most (l, c) k)).2
    unfold inStep
    split
    · rename_i z
      refine ⟨⟨fun x hx => ?_, ?_⟩, ?_⟩
      · rcases List.mem_append.mp hx with q | q
        · exact h1 x q
        · rw [List.mem_singleton.mp q]; omega
      · rw [List.length_append]; simp; omega
      · show 0 ≤ (inner most (l, c) k).2 / 4096; omega
    · exact ⟨⟨h1, h2⟩, h3⟩
theorem absV_nn (i : Int) : 0 ≤ absV' i := by unfold absV'; split <;> omega
theorem mix_ok (c a : Int) : 0 ≤ mix c a ∧ mix c a < 4096 := ⟨Int.emod_nonneg _ (by decide), Int.emod_lt_of_pos _ (by decide)⟩
theorem outer_ok (ns : List Int) {first most : Int} (hm : 0 ≤ most) : ∀ k, Drawn most (outer ns first most k)
  | 0 => ⟨fun _ h => (nomatch h), hm⟩
  | k + 1 => by
    have ih := outer_ok ns (first := first) hm k
    show Drawn most (outStep ns most (outer ns first most k) (first + k))
    unfold outStep
    dsimp only
    split
    · exact (inner_ok hm ih (absV_nn _) 60).1
    · split
      · refine ⟨fun x hx => ?_, ?_⟩
        · rcases List.mem_append.mp hx with q | q
          · exact ih.1 x q
          · rw [List.mem_singleton.mp q]; exact mix_ok _ _
        · rw [List.length_append]; simp; omega
      · exact ih
theorem numbers_ok (ns : List Int) (first : Int) {most : Int} (hm : 0 ≤ most) : Drawn most (numbers ns first most) := outer_ok ns hm _
theorem gd {l : List Int} {j : Nat} (h : j < l.length) : l[j]? = some (l.getD j 0) := by
  rw [List.getD_eq_getElem?_getD, List.getElem?_eq_getElem h]; rfl
section
variable {P : Program} {w : World} {K : PySem.W.Frag} {mg : Str → Option Value} {base : Heap} {CP CU CT : Addr}
theorem at_sc {ns : List Int} {k : Int} (h0 : 0 ≤ k) (h1 : k < ns.length) : atI ns k = some (cellV ns k) := by
  have e : ((k.toNat : Nat) : Int) = k := by omega
  have := gd (l := ns) (j := k.toNat) (by omega)
  have q := atI_nat this
  rw [e] at q
  unfold cellV
  rw [if_pos h1]; exact q
theorem scCell : FnScope ["_law_script", "_law_k"] ["_law_script", "_law_k"] (defScope sCell) := ⟨rfl, rfl, rfl, by decide +kernel, rfl, by decide +kernel, by decide +kernel⟩
def spCell (K : PySem.W.Frag) : Sp := spX (ι := List Int × Int) (fun i => [mk (rSc K) i.1, mk rI i.2]) (fun i => 0 ≤ i.2) (fun i => .ok (im rI (cellV i.1 i.2)))
theorem ok_cell {f : Addr} {fd : FuncData} (F : Fun K "_law_cell" "_law_cell" sCell f fd) (T : Tp K mg CP CU CT) : FnOk P w K mg base (L2N.CX P w) 1 f fd ["_law_script", "_law_k"] (spCell K) := by
  refine fn_ok F scCell (fun _ => rfl) fun ⟨ns, k⟩ B cdv A' outer s H E h0 hr hE => ?_
  have h0 : 0 ≤ k := h0
  conv => arg 5; whnf
  show HT _ _ _ [some (im (rSc K) ns), some (im rI k)] _
  refine HT.when (TV.lt (EV.var 1) (EV.lenSc (AV.cons (EV.var 0) AV.nil) T.len)) (fun h => ?_) (fun h => ?_)
  · exact HT.ret (EV.ixSc (EV.var 0) (EV.var 1) (at_sc h0 (by simpa using h))) rfl
  · refine HT.ret EV.int ?_
    show Rs.ok _ = Rs.ok _
    unfold cellV
    rw [if_neg (by simpa using h)]
abbrev nNum : List Str := ["_law_script", "_law_first", "_law_most", "_law_found", "_law_at", "_law_cell_here", "_law_k", "_law_mixed"]
theorem scNum : FnScope nNum ["_law_script", "_law_first", "_law_most"] (defScope sNumbers) := ⟨rfl, rfl, rfl, by decide +kernel, rfl, by decide +kernel, by decide +kernel⟩
def spNum (K : PySem.W.Frag) : Sp := spX (ι := List Int × Int × Int) (fun i => [mk (rSc K) i.1, mk rI i.2.1, mk rI i.2.2]) (fun i => i.1.length ≤ 63 ∧ (0 ≤ i.2.1 ∧ i.2.1 ≤ 1000) ∧ (0 ≤ i.2.2 ∧ i.2.2 ≤ 1000)) (fun i => .ok (im (rL rI) (numbers i.1 i.2.1 i.2.2)))
theorem ok_num {f : Addr} {fd : FuncData} (F : Fun K "_law_numbers" "_law_numbers" sNumbers f fd) (T : Tp K mg CP CU CT) : FnOk P w K mg base (L2N.CX P w) 1 f fd ["_law_script", "_law_first", "_law_most"] (spNum K) := by
  refine fn_ok F scNum (fun _ => rfl) fun ⟨ns, first, most⟩ B cdv A' outer0 s H E ⟨hl, ⟨hf0, hf1⟩, ⟨hm0, hm1⟩⟩ hr hE => ?_
  have hl : ns.length ≤ 63 := hl
  have hf0 : 0 ≤ first := hf0
  have hf1 : first ≤ 1000 := hf1
  have hm0 : 0 ≤ most := hm0
  have hm1 : most ≤ 1000 := hm1
  have nd := scNum.nd
  conv => arg 5; whnf
  show HT _ _ _ [some (im (rSc K) ns), some (im rI first), some (im rI most), none, none, none, none, none] _
  refine HT.set 3 (EV.lst (R := rI) (as := []) AV.nil rfl (by decide)) ?_ nd
  refine HT.for (IV.rng2 (AV.cons (EV.var 1) (AV.cons (EV.lenSc (AV.cons (EV.var 0) AV.nil) T.len) AV.nil)) (by omega) (by omega) T.rng)
    (fun k Γ => Γ = [some (im (rSc K) ns), some (im rI first), some (im rI most), some (ow rI (outer ns first most k)), none, none, none, none]) rfl ?_ ?_ (passes_of rfl)
  · rintro b' i y Γ' hb hi rfl rfl
    have dr := outer_ok ns (first := first) hm0 i
    have hi1 : first + (i : Int) < ns.length := by omega
    refine ⟨_, GV.name 4 nd, ?_⟩
    refine HT.set 5 (EV.abs (AV.cons (EV.ixSc (EV.var 0) (EV.var 4) (at_sc (by omega) hi1)) AV.nil) T.abs) ?_ nd
    have hc := absV_nn (cellV ns (first + (i : Int)))
    generalize hcc : absV' (cellV ns (first + (i : Int))) = c at hc
    have hcc' : (if cellV ns (first + (i : Int)) < 0 then -cellV ns (first + (i : Int)) else cellV ns (first + (i : Int))) = c := hcc
    rw [hcc']
    have step : outer ns first most (i + 1) = if 1000000000000000000 ≤ c then (inner most (outer ns first most i, c) 60).1 else if ((outer ns first most i).length : Int) < most then outer ns first most i ++ [mix c (first + i)] else outer ns first most i := by
      show outStep ns most (outer ns first most i) (first + i) = _
      unfold outStep
      rw [hcc]
    have le : ∀ {a b c d : Option Sl} {c1 c2 c3 c4 : Option Sl}, Le [a, b, c, d, c1, c2, c3, c4] [a, b, c, d, none, none, none, none] := Le.keep (Le.keep (Le.keep (Le.keep (Le.drop (Le.drop (Le.drop (Le.drop Le.nil)))))))
    refine HT.ite (TV.ge (EV.var 5) EV.int) (fun h => ?_) (fun h => ?_)
    · have h : (1000000000000000000 : Int) ≤ c := by simpa using h
      rw [if_pos h] at step
      refine HT.for (IV.rng1 (AV.cons EV.int AV.nil) (by omega) T.rng) (fun k Γ => Γ = [some (im (rSc K) ns), some (im rI first), some (im rI most), some (ow rI (inner most (outer ns first most i, c) k).1), some (im rI (first + (i : Int))), some (im rI (inner most (outer ns first most i, c) k).2), none, none])
        rfl ?_ ?_ (passes_of rfl)
      · rintro b2 j y Γ' hb2 hj rfl rfl
        obtain ⟨⟨q1, q2⟩, q3⟩ := inner_ok hm0 dr hc j
        refine ⟨_, GV.name 6 nd, ?_⟩
        have le : ∀ {a b c d : Option Sl} {c1 c2 c3 c4 : Option Sl}, Le [a, b, c, d, c1, c2, c3, c4] [a, b, c, d, c1, c2, none, c4] := Le.keep (Le.keep (Le.keep (Le.keep (Le.keep (Le.keep (Le.drop (Le.keep Le.nil)))))))
        generalize hp : inner most (outer ns first most i, c) j = p at q1 q2 q3
        have hs : inner most (outer ns first most i, c) (j + 1) = inStep most p := by
          show inStep most (inner most (outer ns first most i, c) j) = _
          rw [hp]
        obtain ⟨l, d⟩ := p
        refine HT.when (TV.and (TV.gt (EV.var 5) EV.int) fun _ => TV.lt (EV.lenOw 3 rfl T.len) (EV.var 2)) (fun hy => ?_) (fun hn => ?_)
        · have hy : 0 < d ∧ (l.length : Int) < most := by simpa using hy
          refine HT.append 3 rfl (EV.mod (EV.toInt (AV.cons (EV.var 5) AV.nil) T.int) EV.int (by decide)) (by omega) ?_
          refine HT.set 5 (EV.fdiv (EV.var 5) EV.int (by constructor <;> decide)) ?_ nd
          refine HT.nil (HT.done le ?_)
          rw [hs]
          unfold inStep
          rw [if_pos hy]
        · have hn : ¬ (0 < d ∧ (l.length : Int) < most) := fun q => by simp [q.1, q.2] at hn
          refine HT.done le ?_
          rw [hs]
          unfold inStep
          rw [if_neg hn]
      · rintro Γ' rfl
        refine HT.nil (HT.done le ?_)
        rw [step]; rfl
    · have h : c < 1000000000000000000 := by simpa using h
      rw [if_neg (by omega)] at step
      refine HT.when (TV.lt (EV.lenOw 3 rfl T.len) (EV.var 2)) (fun hy => ?_) (fun hn => ?_)
      · have hy : ((outer ns first most i).length : Int) < most := by simpa using hy
        rw [if_pos hy] at step
        refine HT.set 7 (EV.mod (EV.toInt (AV.cons (EV.add (EV.add (EV.mul (EV.var 5) EV.int (.inl (by omega))) (EV.mul (EV.var 4) EV.int (.inl (by omega)))) EV.int) AV.nil) T.int) EV.int (by decide)) ?_ nd
        refine HT.set 7 (EV.mod (EV.toInt (AV.cons (EV.add (EV.mul (EV.var 7) EV.int (.inl (by omega))) (EV.fdiv (EV.var 7) EV.int (by constructor <;> decide))) AV.nil) T.int) EV.int (by decide)) ?_ nd
        refine HT.append 3 rfl (EV.mod (EV.toInt (AV.cons (EV.var 7) AV.nil) T.int) EV.int (by decide)) (by omega) ?_
        refine HT.nil (HT.nil (HT.done le ?_))
        rw [step]; rfl
      · have hn : ¬ ((outer ns first most i).length : Int) < most := by simpa using hn
        rw [if_neg hn] at step
        refine HT.nil (HT.done le ?_)
        rw [step]
  · rintro Γ' rfl
    refine HT.frz 3 rfl ?_
    exact HT.ret (EV.var 3) rfl
end
end K1

namespace K1
open PySem L2 Evl Lg PyProof.Rows
abbrev sLawName : Stmt := topS 18
theorem tA : ("a" : Str) = sg 97 := by decide +kernel
theorem tZ : ("z" : Str) = sg 122 := by decide +kernel
theorem t0 : ("0" : Str) = sg 48 := by decide +kernel
theorem t9 : ("9" : Str) = sg 57 := by decide +kernel
theorem tD : ("-" : Str) = sg 45 := by decide +kernel
theorem sg_inj {a c : Nat} : sg a = sg c ↔ a = c := ⟨fun h => by
  have := congrArg cs h
  have : [a] = [c] := this
  exact (List.cons.inj this).1, fun h => by rw [h]⟩
def okC (x : Str) : Bool := (leS "a" x && leS x "z") || ((leS "0" x && leS x "9") || decide (x = "-"))
theorem okC_sg (c : Nat) : okC (sg c) = alnum c := by
  unfold okC alnum
  rw [tA, tZ, t0, t9, tD, leS_sg, leS_sg, leS_sg, leS_sg, Bool.eq_iff_iff]
  simp only [Bool.or_eq_true, Bool.and_eq_true, decide_eq_true_eq, sg_inj, or_assoc]
theorem str_sg {z : Str} (h : PyData.strOk z = true) {c : Nat} (hc : c ∈ cs z) : PyData.strOk (sg c) = true := by
  have : c < 0x110000 := by
    have := Array.all_eq_true_iff_forall_mem.mp h c (by
      rw [← Array.mem_toList_iff]; exact hc)
    exact of_decide_eq_true this
  unfold PyData.strOk sg
  simp [this]
section
variable {P : Program} {w : World} {K : PySem.W.Frag} {mg : Str → Option Value} {base : Heap} {CP CU CT CB : Addr}
abbrev nLN : List Str := ["_law_text", "_law_char"]
theorem scLN : FnScope nLN ["_law_text"] (defScope sLawName) := ⟨rfl, rfl, rfl, by decide +kernel, rfl, by decide +kernel, by decide +kernel⟩
def spLN : Sp := spX (ι := Str) (fun i => [mk rS i]) (fun i => i.length ≤ 1000 ∧ PyData.strOk i = true) (fun i => .ok (im rB (nameB i)))
theorem ok_ln {f : Addr} {fd : FuncData} (F : Fun K "_law_is_name" "_law_is_name" sLawName f fd) (T : Tp K mg CP CU CT) : FnOk P w K mg base (L2N.CX P w) 1 f fd ["_law_text"] spLN := by
  refine fn_ok F scLN (fun _ => rfl) fun z B cdv A' outer s H E ⟨hp, hok⟩ hr _ => ?_
  have hp : z.length ≤ 1000 := hp
  have nd := scLN.nd
  conv => arg 5; whnf
  show HT _ _ _ [some (im rS z), none] _
  have hl := cs_len z
  cases q : cs z with
  | nil =>
    rw [q] at hl
    have hl : z.length = 0 := hl.symm
    refine HT.when (TV.or (c2 := true) (TV.not (TV.leLe EV.int (EV.lenS (AV.cons (EV.var 0) AV.nil) (Nat.le_trans hp (by decide)) T.len) EV.int)) (fun h => ?_)) (fun h => HT.ret EV.bl ?_) (fun h => ?_)
    · exfalso; rw [hl] at h; exact absurd h (by decide)
    · show Rs.ok _ = Rs.ok _
      unfold nameB
      rw [q]
    · exfalso; rw [Bool.or_true] at h; cases h
  | cons c r =>
    rw [q] at hl
    have hl : r.length + 1 = z.length := hl
    refine HT.when (TV.or (TV.not (TV.leLe EV.int (EV.lenS (AV.cons (EV.var 0) AV.nil) (Nat.le_trans hp (by decide)) T.len) EV.int)) (fun h => TV.not (TV.leLeS EV.str (EV.chr (c := c) (EV.var 0) EV.int (by decide) (by decide) (by rw [q]; rfl)) EV.str))) (fun h => HT.ret EV.bl ?_) (fun h => ?_)
    · show Rs.ok _ = Rs.ok _
      unfold nameB
      rw [q]
      dsimp only
      rw [show ("a" : Str) = sg 97 from tA, show ("z" : Str) = sg 122 from tZ, leS_sg, leS_sg] at h
      by_cases h12 : z.length ≤ 12
      · rw [decide_eq_true h12]
        have : lower c = false := by
          unfold lower
          simp at h
          have : ¬ (97 ≤ c ∧ c ≤ 122) := by omega
          exact decide_eq_false this
        rw [this]; rfl
      · rw [decide_eq_false h12]; rfl
    · rw [show ("a" : Str) = sg 97 from tA, show ("z" : Str) = sg 122 from tZ, leS_sg, leS_sg] at h
      simp at h
      refine HT.ret (EV.eqW (x := (((cs z).map sg).filter fun x => !okC x).map fun x => x) (y := []) (Dw.str.lst Lis.pl) (by decide) hr.units (layAll _ _ fun a ha => ?_) rfl (EV.fz (LV.ev (LV.lcL1 (j := 1) (S := rS) (fun x : Str => !okC x) (fun x : Str => x) (IV.chars (EV.var 0)) nd (by show blkC nLN (defScope sLawName) _ [("_law_char", 1)] = true; decide +kernel) (by rw [List.length_map, cs_len]; omega) (fun b' i a s H0 C cl fp hb ha => TV.not (TV.or3 (TV.leLeS EV.str (EV.var 1) EV.str) (fun _ => TV.leLeS EV.str (EV.var 1) EV.str) (fun _ _ => TV.eqS (EV.var 1) EV.str))) (fun b' i a s H0 C cl fp hb ha hne => EV.var 1) (fun _ _ _ _ _ => pg_name nd rfl (Or.inl rfl))))) (EV.fz (EV.lst (R := rS) (as := []) AV.nil rfl (by decide)))) ?_
      · rw [List.map_id'] at ha
        obtain ⟨h1, _⟩ := List.mem_filter.mp ha
        obtain ⟨d, hd, rfl⟩ := List.mem_map.mp h1
        exact str_sg hok hd
      · show Rs.ok _ = Rs.ok _
        unfold nameB
        rw [q]
        dsimp only
        have h12 : z.length ≤ 12 := by omega
        have hlow : lower c = true := by unfold lower; exact decide_eq_true (by omega)
        rw [decide_eq_true h12, hlow, Bool.true_and, Bool.true_and, List.map_id']
        congr 3
        rw [Bool.eq_iff_iff, decide_eq_true_eq, List.filter_eq_nil_iff, List.all_eq_true]
        constructor
        · intro k x hx
          obtain ⟨d, hd, rfl⟩ := List.mem_map.mp hx
          rw [okC_sg, k d hd]; decide
        · intro k d hd
          have := k (sg d) (List.mem_map.mpr ⟨d, hd, rfl⟩)
          rw [okC_sg] at this
          simpa using this
end
end K1

namespace K1
open PySem L2 Evl Lg PyProof.Rows
abbrev sRight : Stmt := topS 19
abbrev sCallL : Stmt := topS 20
def aD (p : Str × Option Str) : PyData := .tuple [.str p.1, oD p.2]
theorem Dw_area {K : PySem.W.Frag} : Dw K rArea aD 1 := ⟨fun {H v x} h => by
  obtain ⟨a, v1, v2, rfl, h2, h3, h4⟩ := h
  exact .tup (SqT.of h2) (.cons (Dw.str.rep h3) (.cons (Dw.optS.rep h4) .nil)), fun x => by
    obtain ⟨n, o⟩ := x
    cases o <;> exact Nat.le_refl _, fun x y => by
    obtain ⟨n, o⟩ := x
    obtain ⟨m, p⟩ := y
    show (PyData.eqv (.str n) (.str m) && (PyData.eqv (oD o) (oD p) && true)) = true ↔ _
    rw [Bool.and_true, Bool.and_eq_true, Dw.str (K := K).eqv, Dw.optS (K := K).eqv]
    exact ⟨fun ⟨h1, h2⟩ => by rw [h1, h2], fun h => by cases h; exact ⟨rfl, rfl⟩⟩⟩
theorem EV.neW {X : Cx} {b : Bs} {Γ : Lg.Ctx} {α : Type} {R : Rl α} {x y : α} {D : α → PyData} {n : Nat} {e1 e2 : Expr} {pos : Pos} [DecidableEq α] (d : Dw X.K R D n) (hn : n ≤ 64) (hu : X.A.units + 64 < cLine) (hx : (D x).canLay0 = true) (hy : (D y).canLay0 = true) (ha : EV X b Γ e1 (im R x)) (hb : EV X b Γ e2 (im R y)) : EV X b Γ (.Compare e1 [.NotEq] [e2] pos) (im rB (!decide (x = y))) := EV.of (pe_cmpR (op_neD hu) pe_w pe_w (nomark _)) (EvS.op2i ha hb fun F H v w ef h1 h2 Q q =>
  ⟨_, _, d.rep (R.m ef h1), d.rep (R.m ef h2), d.shaped hn hx, d.shaped hn hy, q _ (by
    show V.bl _ = V.bl _
    congr 2
    rw [Bool.eq_iff_iff, d.eqv]; simp)⟩)
def Fine (l : Ar) : Prop := AreasOk l ∧ ∀ p ∈ l, PyData.strOk p.1 = true ∧ ∀ q, p.2 = some q → PyData.strOk q = true
theorem Fine.lay {l : Ar} (h : Fine l) : (PyData.list (l.map aD)).canLay0 = true := layAll _ _ fun p hp => by
  obtain ⟨h1, h2⟩ := h.2 p hp
  obtain ⟨n, o⟩ := p
  cases o with
  | none => show (PyData.strOk n && (true && true)) = true; rw [h1]; rfl
  | some q => show (PyData.strOk n && (PyData.strOk q && true)) = true; rw [h1, h2 q rfl]; rfl
section
variable {P : Program} {w : World} {K : PySem.W.Frag} {mg : Str → Option Value} {base : Heap} {CP CU CT CB : Addr}
abbrev nRight : List Str := ["_law_areas", "_law_seen", "_law_k"]
theorem scRight : FnScope nRight ["_law_areas"] (defScope sRight) := ⟨rfl, rfl, rfl, by decide +kernel, rfl, by decide +kernel, by decide +kernel⟩
def spRight : Sp := spX (ι := Ar) (fun i => [mk (rL rArea) i]) Fine (fun i => .ok (im rB (treeB i)))
theorem ok_right {f : Addr} {fd : FuncData} (F : Fun K "_law_tree_right" "_law_tree_right" sRight f fd) (T : Tp K mg CP CU CT) (TN : Kn P w K mg base 1 "_law_is_name" ["_law_text"] spLN) : FnOk P w K mg base (L2N.CX P w) 2 f fd ["_law_areas"] spRight := by
  refine fn_ok F scRight (fun _ => rfl) fun l B cdv A' outer s H E hp hr _ => ?_
  have hp : Fine l := hp
  have hl := hp.1.1
  have nd := scRight.nd
  have tk : L2N.Takes (cxOf (L2N.CX P w) P w K mg base nRight "_law_tree_right" (defScope sRight) f cdv A' outer s H E) (fun cls d _ H => E cls d H) := L2N.takes_of rfl rfl rfl rfl
  conv => arg 5; whnf
  show HT _ _ _ [some (im (rL rArea) l), none, none] _
  refine HT.set 1 (EV.lst (R := rS) (as := []) AV.nil rfl (by decide)) ?_ nd
  refine HT.for (IV.rng1 (AV.cons (EV.lenL (AV.cons (EV.var 0) AV.nil) T.len) AV.nil) (by omega) T.rng) (fun k Γ => Γ = [some (im (rL rArea) l), some (ow rS ((l.take k).map (·.1))), none] ∧ seqB [] (l.take k) = true) ⟨rfl, rfl⟩ ?_ ?_ (passes_of rfl)
  · rintro b' i y Γ' hb hi rfl ⟨rfl, hseq⟩
    have hi : i < l.length := by omega
    have hx : l[i]? = some (l[i]) := List.getElem?_eq_getElem hi
    generalize l[i] = x at hx
    obtain ⟨n, o⟩ := x
    obtain ⟨ok1, _⟩ := hp.2 _ (List.mem_of_getElem? hx)
    have hz : n.length ≤ 1000 := hp.1.2 _ (List.mem_of_getElem? hx)
    have ht1 : l.take (i + 1) = l.take i ++ [(n, o)] := by rw [List.take_add_one, hx]; rfl
    have hlen : ((l.take i).map (·.1)).length = i := by rw [List.length_map, List.length_take]; omega
    have bad : fitsB ((l.take i).map (·.1)) n o = false → treeB l = false := fun hf => by
      unfold treeB
      have : seqB [] l = false := by
        conv => lhs; rw [← List.take_append_drop (i + 1) l, ht1, seqB_app, seqB_app, hseq]
        show (true && (fitsB ([] ++ (l.take i).map (·.1)) n o && true) && _) = false
        rw [List.nil_append, hf]; rfl
      rw [this]; rfl
    have good : fitsB ((l.take i).map (·.1)) n o = true → seqB [] (l.take (i + 1)) = true := fun hf => by
      rw [ht1, seqB_app, hseq]
      show (true && (fitsB ([] ++ (l.take i).map (·.1)) n o && true)) = true
      rw [List.nil_append, hf]; rfl
    have hti : (l.take (i + 1)).map (·.1) = (l.take i).map (·.1) ++ [n] := by rw [ht1, List.map_append]; rfl
    generalize hns : (l.take i).map (·.1) = ns at hlen bad good hti
    refine ⟨_, GV.name 2 nd, ?_⟩
    refine HT.when (TV.or (TV.not (TV.val (EV.call (i := n) TN (hr.mono (by decide)) tk (AV.cons (EV.ixP0 (x := n) (y := o) (R := rS) (S := rO rS) (EV.ixL (EV.var 0) (EV.var 2) (atI_nat hx))) AV.nil) ⟨hz, ok1⟩ rfl))) fun _ => TV.lend 1 rfl (TV.inF (x := n) Flat.str Lis.pl (EV.ixP0 (x := n) (y := o) (R := rS) (S := rO rS) (EV.ixL (EV.var 0) (EV.var 2) (atI_nat hx))) (EV.var 1))) (fun h => HT.ret EV.bl ?_) (fun h => ?_)
    · show Rs.ok _ = Rs.ok _
      rw [bad (by unfold fitsB; rw [if_pos h])]
    refine HT.when (TV.or (TV.and (TV.eqI (EV.var 2) EV.int) fun _ => TV.notNon (EV.ixP1 (x := n) (y := o) (R := rS) (S := rO rS) (EV.ixL (EV.var 0) (EV.var 2) (atI_nat hx))) (fun F v x h => by rw [show v = V.str x from h]; exact fun z => nomatch z)) fun _ => TV.and (TV.gt (EV.var 2) EV.int) fun _ => TV.lend 1 rfl (TV.ninF (x := o) (as := ns.map some) Flat.opt Lis.pl (EV.ixP1 (x := n) (y := o) (R := rS) (S := rO rS) (EV.ixL (EV.var 0) (EV.var 2) (atI_nat hx))) ((EV.var 1).to fun F v h => rL.conv some (fun _ _ _ h => h) h))) (fun h2 => HT.ret EV.bl ?_) (fun h2 => ?_)
    · show Rs.ok _ = Rs.ok _
      rw [bad ?_]
      unfold fitsB
      rw [h, if_neg (by decide)]
      by_cases z : ns = []
      · rw [if_pos z]
        rw [z] at hlen
        have h0 : i = 0 := hlen.symm
        subst h0
        cases o with
        | none => simp at h2
        | some q => rfl
      · rw [if_neg z]
        have h0 : ¬ i = 0 := fun e => z (List.length_eq_zero_iff.mp (hlen.trans e))
        cases o with
        | none => rfl
        | some q =>
          show decide (q ∈ ns) = false
          simp [h0] at h2
          exact decide_eq_false h2.2
    · have hf : fitsB ns n o = true := by
        unfold fitsB
        rw [h, if_neg (by decide)]
        by_cases z : ns = []
        · rw [if_pos z]
          rw [z] at hlen
          have h0 : i = 0 := hlen.symm
          subst h0
          cases o with
          | none => rfl
          | some q => simp at h2
        · rw [if_neg z]
          have h0 : ¬ i = 0 := fun e => z (List.length_eq_zero_iff.mp (hlen.trans e))
          have h1 : 0 < i := by omega
          cases o with
          | none => simp [h0, h1] at h2
          | some q =>
            show decide (q ∈ ns) = true
            simp [h0, h1] at h2
            exact decide_eq_true h2
      refine HT.append 1 rfl (EV.ixP0 (x := n) (y := o) (R := rS) (S := rO rS) (EV.ixL (EV.var 0) (EV.var 2) (atI_nat hx))) (by omega) ?_
      rw [← hti]
      exact HT.done (by repeat (first | exact Le.nil | apply Le.keep | apply Le.drop)) ⟨rfl, good hf⟩
  · rintro Γ' ⟨rfl, hseq⟩
    rw [show ((l.length : Int)).toNat = l.length by omega, List.take_length] at hseq
    refine HT.ret (EV.neW (x := l) (y := []) (Dw.lst Lis.pl Dw_area) (by decide) hr.units hp.lay rfl (EV.var 0) (EV.fz (EV.lst (R := rArea) (as := []) AV.nil rfl (by decide)))) ?_
    show Rs.ok _ = Rs.ok _
    unfold treeB
    rw [hseq]
    cases l <;> rfl
end
end K1

namespace K1
open PySem L2 Evl Lg PyProof.Rows
abbrev sAny : Stmt := topS 17
def names8 : List Str := ["land", "north", "south-1", "x", "a2345678901b", "q9", "east", "w"]
def bad8 : List Str := ["", "9a", "Land", "a_b", "a234567890123", "-x", "x y", "a."]
def pool : List Str := names8 ++ bad8
def PoolOk (p : Str × Option Str) : Prop := p.1 ∈ pool ∧ ∀ q, p.2 = some q → q ∈ ("nowhere" : Str) :: pool
theorem pool_str : ∀ n ∈ ("nowhere" : Str) :: pool, n.length ≤ 1000 ∧ PyData.strOk n = true := by
  have : ((("nowhere" : Str) :: pool).all fun n => decide (n.length ≤ 1000) && PyData.strOk n) = true := by decide +kernel
  intro n hn
  have q := List.all_eq_true.mp this n hn
  rw [Bool.and_eq_true, decide_eq_true_eq] at q
  exact q
theorem pool_fine {l : Ar} (hl : l.length ≤ 10) (h : ∀ p ∈ l, PoolOk p) : Fine l :=
  ⟨⟨by omega, fun p hp => (pool_str _ (List.mem_cons_of_mem _ (h p hp).1)).1⟩, fun p hp => ⟨(pool_str _ (List.mem_cons_of_mem _ (h p hp).1)).2, fun q hq => (pool_str _ ((h p hp).2 q hq)).2⟩⟩
theorem getD_mem {l : List Str} {k : Int} (h0 : 0 ≤ k) (h1 : k < l.length) : l.getD k.toNat "" ∈ l := by
  rw [List.getD_eq_getElem?_getD, List.getElem?_eq_getElem (by omega)]
  exact List.getElem_mem _
theorem at_i {α : Type} {l : List α} {k : Int} (d : α) (h0 : 0 ≤ k) (h1 : k < l.length) : atI l k = some (l.getD k.toNat d) := by
  have e : ((k.toNat : Nat) : Int) = k := by omega
  have hx : l[k.toNat]? = some (l.getD k.toNat d) := by
    rw [List.getD_eq_getElem?_getD, List.getElem?_eq_getElem (by omega)]; rfl
  have q := atI_nat hx
  rwa [e] at q
section
variable {P : Program} {w : World} {K : PySem.W.Frag} {mg : Str → Option Value} {base : Heap} {CP CU CT CB : Addr}
abbrev nAny : List Str := ["_law_numbers_here", "_law_names", "_law_areas", "_law_k", "_law_name", "_law_parent"]
theorem scAny : FnScope nAny ["_law_numbers_here"] (defScope sAny) := ⟨rfl, rfl, rfl, by decide +kernel, rfl, by decide +kernel, by decide +kernel⟩
def spAny : Sp := spR (ι := List Int) (fun i => [mk (rL rI) i]) (fun i => Drawn 10 i) (fun _ s => ∃ y : Ar, y.length ≤ 10 ∧ (∀ p ∈ y, PoolOk p) ∧ s = im (rL rArea) y)
theorem ok_any {f : Addr} {fd : FuncData} (F : Fun K "_law_any_areas" "_law_any_areas" sAny f fd) (T : Tp K mg CP CU CT) : FnOk P w K mg base (L2N.CX P w) 1 f fd ["_law_numbers_here"] spAny := by
  refine fn_okR F scAny (fun _ => rfl) fun ns B cdv A' outer s H E hp hr => ?_
  have hd : Drawn 10 ns := hp
  obtain ⟨hd1, hd2⟩ := hd
  have nd := scAny.nd
  conv => arg 5; whnf
  show HT _ _ _ [some (im (rL rI) ns), none, none, none, none, none] _
  refine HT.set 1 (EV.fz (EV.lst (R := rS) (as := names8) (AV.cons EV.str (AV.cons EV.str (AV.cons EV.str (AV.cons EV.str (AV.cons EV.str (AV.cons EV.str (AV.cons EV.str (AV.cons EV.str AV.nil)))))))) rfl (by decide))) ?_ nd
  refine HT.set 2 (EV.lst (R := rArea) (as := []) AV.nil rfl (by decide)) ?_ nd
  refine HT.for (IV.rng1 (AV.cons (EV.lenL (AV.cons (EV.var 0) AV.nil) T.len) AV.nil) (by omega) T.rng) (fun k Γ => ∃ l : Ar, Γ = [some (im (rL rI) ns), some (im (rL rS) names8), some (ow rArea l), none, none, none] ∧ l.length = k ∧ ∀ p ∈ l, PoolOk p) ⟨[], rfl, rfl, fun _ z => nomatch z⟩ ?_ ?_ (passes_of rfl)
  · rintro b' i y Γ' hb hi rfl ⟨l, rfl, hll, hl⟩
    have hi : i < ns.length := by omega
    have hx : ns[i]? = some (ns[i]) := List.getElem?_eq_getElem hi
    obtain ⟨x0, x1⟩ := hd1 (ns[i]) (List.getElem_mem _)
    generalize ns[i] = x at hx x0 x1
    have n8 : (names8.length : Int) = 8 := rfl
    have b8 : (bad8.length : Int) = 8 := rfl
    refine ⟨_, GV.name 3 nd, ?_⟩
    refine HT.set 4 (EV.ixL (EV.var 1) (EV.mod (EV.toInt (AV.cons (EV.ixL (EV.var 0) (EV.var 3) (atI_nat hx)) AV.nil) T.int) EV.int (by decide)) (at_i ("" : Str) (by omega) (by omega))) ?_ nd
    refine HT.ifSet 4 rfl (TV.gt (EV.mod (EV.toInt (AV.cons (EV.fdiv (EV.ixL (EV.var 0) (EV.var 3) (atI_nat hx)) EV.int (by constructor <;> decide)) AV.nil) T.int) EV.int (by decide)) EV.int) (fun _ => EV.ixL (EV.var 1) (EV.mod (EV.var 3) EV.int (by decide)) (at_i ("" : Str) (by omega) (by omega))) ?_ nd
    refine HT.ifSet 4 rfl (TV.eqI (EV.mod (EV.toInt (AV.cons (EV.fdiv (EV.ixL (EV.var 0) (EV.var 3) (atI_nat hx)) EV.int (by constructor <;> decide)) AV.nil) T.int) EV.int (by decide)) EV.int) (fun _ => EV.ixL (EV.fz (EV.lst (R := rS) (as := bad8) (AV.cons EV.str (AV.cons EV.str (AV.cons EV.str (AV.cons EV.str (AV.cons EV.str (AV.cons EV.str (AV.cons EV.str (AV.cons EV.str AV.nil)))))))) rfl (by decide))) (EV.mod (EV.toInt (AV.cons (EV.fdiv (EV.ixL (EV.var 0) (EV.var 3) (atI_nat hx)) EV.int (by constructor <;> decide)) AV.nil) T.int) EV.int (by decide)) (at_i ("" : Str) (by omega) (by omega))) ?_ nd
    have hname : ∀ c1 c2 : Bool, (if c2 then bad8.getD (x / 768 % 8).toNat "" else if c1 then names8.getD ((i : Int) % 8).toNat "" else names8.getD (x % 8).toNat "") ∈ pool := by
      intro c1 c2
      cases c2
      · cases c1
        · exact List.mem_append_left _ (getD_mem (by omega) (by omega))
        · exact List.mem_append_left _ (getD_mem (by omega) (by omega))
      · exact List.mem_append_right _ (getD_mem (by omega) (by omega))
    have hname := hname (decide (0 < x / 8 % 6)) (decide (x / 48 % 16 = 1))
    show HT _ _ _ [some (im (rL rI) ns), some (im (rL rS) names8), some (ow rArea l), some (im rI (i : Int)), some (im rS (if decide (x / 48 % 16 = 1) then bad8.getD (x / 768 % 8).toNat "" else if decide (0 < x / 8 % 6) then names8.getD ((i : Int) % 8).toNat "" else names8.getD (x % 8).toNat "")), none] _
    generalize (if decide (x / 48 % 16 = 1) then bad8.getD (x / 768 % 8).toNat "" else if decide (0 < x / 8 % 6) then names8.getD ((i : Int) % 8).toNat "" else names8.getD (x % 8).toNat "") = nm at hname
    refine HT.set 5 (EV.non.to (S := rO rS) (y := none) fun F v h => h) ?_ nd
    refine HT.ifSet 5 rfl (TV.gt (EV.var 3) EV.int) (fun hc => ?_) ?_ nd (y := some (l.getD (x / 100 % (i : Int)).toNat ("", none)).1)
    · have hc : 0 < (i : Int) := by simpa using hc
      have m0 := Int.emod_nonneg (x / 100) (show (i : Int) ≠ 0 by omega)
      have m1 := Int.emod_lt_of_pos (x / 100) hc
      exact EV.lend 2 rfl (NoL.opt NoL.str) ((EV.ixP0 (x := (l.getD (x / 100 % (i : Int)).toNat ("", none)).1) (y := (l.getD (x / 100 % (i : Int)).toNat ("", none)).2) (R := rS) (S := rO rS) (EV.ixL (EV.var 2) (EV.mod (EV.toInt (AV.cons (EV.fdiv (EV.ixL (EV.var 0) (EV.var 3) (atI_nat hx)) EV.int (by constructor <;> decide)) AV.nil) T.int) (EV.var 3) hc) (at_i (l := l) ("", none) m0 (by omega)))).to fun F v h => h)
    refine HT.ifSet 5 rfl (TV.eqI (EV.mod (EV.toInt (AV.cons (EV.fdiv (EV.ixL (EV.var 0) (EV.var 3) (atI_nat hx)) EV.int (by constructor <;> decide)) AV.nil) T.int) EV.int (by decide)) EV.int) (fun _ => EV.ixL (EV.fz (EV.lst (R := rO rS) (as := [none, some "nowhere", some nm]) (AV.cons (EV.non.to (S := rO rS) (y := none) fun F v h => h) (AV.cons (EV.str.to (S := rO rS) (y := some "nowhere") fun F v h => h) (AV.cons ((EV.var 4).to (S := rO rS) (y := some nm) fun F v h => h) AV.nil))) rfl (by show 3 ≤ 1000; decide))) (EV.mod (EV.toInt (AV.cons (EV.fdiv (EV.ixL (EV.var 0) (EV.var 3) (atI_nat hx)) EV.int (by constructor <;> decide)) AV.nil) T.int) EV.int (by decide)) (at_i none (by omega) (by show _ < (3 : Int); omega))) ?_ nd
    refine HT.append 2 rfl (EV.pair (AV.cons (EV.var 4) (AV.cons (EV.var 5) AV.nil))) (by omega) ?_
    refine HT.done (by repeat (first | exact Le.nil | apply Le.keep | apply Le.drop)) ⟨_, rfl, by rw [List.length_append, hll]; rfl, fun p hp => ?_⟩
    rcases List.mem_append.mp hp with z | z
    · exact hl p z
    · rw [List.mem_singleton.mp z]
      refine ⟨hname, fun q hq => ?_⟩
      have hq : (if decide (x / 600 % 9 = 1) then [none, some ("nowhere" : Str), some nm].getD (x / 5 % 3).toNat none else if decide (0 < (i : Int)) then some (l.getD (x / 100 % (i : Int)).toNat ("", none)).1 else none) = some q := hq
      by_cases c2 : x / 600 % 9 = 1
      · rw [decide_eq_true c2, if_pos rfl] at hq
        have : x / 5 % 3 = 0 ∨ x / 5 % 3 = 1 ∨ x / 5 % 3 = 2 := by omega
        rcases this with e | e | e
        · rw [e] at hq; cases hq
        · rw [e] at hq; cases hq; exact List.mem_cons_self
        · rw [e] at hq; cases hq; exact List.mem_cons_of_mem _ hname
      · rw [decide_eq_false c2, if_neg (by decide)] at hq
        by_cases c1 : 0 < (i : Int)
        · rw [decide_eq_true c1, if_pos rfl] at hq
          cases hq
          have m0 := Int.emod_nonneg (x / 100) (show (i : Int) ≠ 0 by omega)
          have m1 := Int.emod_lt_of_pos (x / 100) c1
          have hm : l.getD (x / 100 % (i : Int)).toNat ("", none) ∈ l := by
            rw [List.getD_eq_getElem?_getD, List.getElem?_eq_getElem (by omega)]
            exact List.getElem_mem _
          exact List.mem_cons_of_mem _ (hl _ hm).1
        · rw [decide_eq_false c1, if_neg (by decide)] at hq; cases hq
  · rintro Γ' ⟨l, rfl, hll, hl⟩
    refine HT.frz 2 rfl ?_
    exact HT.ret (EV.var 2) ⟨l, by omega, hl, rfl⟩
end
end K1

namespace K1
open PySem L2 Evl Lg PyProof.Rows
theorem HT.retNo {X : Cx} {b : Bs} {D : EndC} {Γ : Lg.Ctx} {e : Expr} {pos : Pos} {rest : List Stmt} (he : EV X b Γ e noS) : HT X b D Γ (.Return (some e) pos :: rest) :=
  HT.step (ps_ret pe_w) fun σ F H ⟨l, g, d⟩ => he σ F H l g d _ fun v F' H' l' w p f => p.elim
section
variable {P : Program} {w : World} {K : PySem.W.Frag} {mg : Str → Option Value} {base : Heap} {CP CU CT CB : Addr}
abbrev nCL : List Str := ["_law_tree", "_law_way", "_law_name"]
theorem scCL : FnScope nCL nCL (defScope sCallL) := ⟨rfl, rfl, rfl, by decide +kernel, rfl, by decide +kernel, by decide +kernel⟩
def spCL (CT CU : Addr) : Sp := spY (ι := Ar × Int × Str) (fun i => [mk (rTree CT) i.1, mk rI i.2.1, mk rS i.2.2]) (fun i => i.2.2.length ≤ 1000 ∧ AreasOk i.1 ∧ treeB i.1 = true ∧ i.2.2 ∉ i.1.map (·.1)) (fun i => .errF CU [("name", .str i.2.2)])
theorem ok_cl {f : Addr} {fd : FuncData} (F : Fun K "_law_call" "_law_call" sCallL f fd)
    (t0 : KnM P w K mg base 4 CT "parent" ["self", "name"] (spOf CT CU fun y n => im (rO rS) (parOf y n))) (t1 : KnM P w K mg base 4 CT "children" ["self", "name"] (spOf CT CU fun y n => ow rS (kids y n)))
    (t2 : KnM P w K mg base 4 CT "leaves_below" ["self", "name"] (spOf CT CU fun y n => ow rS ((leavesOf y).filter fun x => decide (x ∈ belowL y n)))) (t3 : KnM P w K mg base 4 CT "is_leaf" ["self", "name"] (spOf CT CU fun y n => im rB (kids y n).isEmpty))
    (t4 : KnM P w K mg base 4 CT "level" ["self", "name"] (spLevel CT CU)) : FnOk P w K mg base (L2N.CX P w) 5 f fd nCL (spCL CT CU) := by
  refine fn_okY F scCL (fun _ => rfl) fun ⟨y, way, z⟩ B cdv A' outer s H E ⟨hz, hA, hT, hk⟩ hr _ hF => ?_
  have hz : z.length ≤ 1000 := hz
  have hA : AreasOk y := hA
  have hT : treeB y = true := hT
  have hk : z ∉ y.map (·.1) := hk
  have tk : L2N.Takes (cxOf (L2N.CX P w) P w K mg base nCL "_law_call" (defScope sCallL) f cdv A' outer s H E) (fun cls d _ H => E cls d H) := L2N.takes_of rfl rfl rfl rfl
  conv => arg 5; whnf
  show HT _ _ _ [some (im (rTree CT) y), some (im rI way), some (im rS z)] _
  refine HT.when (TV.eqI (EV.var 1) EV.int) (fun _ => HT.retNo (EV.methY (i := (y, z)) t0 hr tk (EV.var 0) (fun F v h => rObj.no h rfl) (AV.cons (EV.var 2) AV.nil) rfl ⟨hz, hA⟩ (fun s' h => (unk_ok hk h).elim) (fun C h => (known_err h).elim) (fun C fs h => unkF hk h fun σ F H' d ⟨l', _, dd⟩ hd => hF CU _ rfl H' d dd.eb hd))) (fun _ => ?_)
  refine HT.when (TV.eqI (EV.var 1) EV.int) (fun _ => HT.retNo (EV.methY (i := (y, z)) t1 hr tk (EV.var 0) (fun F v h => rObj.no h rfl) (AV.cons (EV.var 2) AV.nil) rfl ⟨hz, hA⟩ (fun s' h => (unk_ok hk h).elim) (fun C h => (known_err h).elim) (fun C fs h => unkF hk h fun σ F H' d ⟨l', _, dd⟩ hd => hF CU _ rfl H' d dd.eb hd))) (fun _ => ?_)
  refine HT.when (TV.eqI (EV.var 1) EV.int) (fun _ => HT.retNo (EV.methY (i := (y, z)) t2 hr tk (EV.var 0) (fun F v h => rObj.no h rfl) (AV.cons (EV.var 2) AV.nil) rfl ⟨hz, hA⟩ (fun s' h => (unk_ok hk h).elim) (fun C h => (known_err h).elim) (fun C fs h => unkF hk h fun σ F H' d ⟨l', _, dd⟩ hd => hF CU _ rfl H' d dd.eb hd))) (fun _ => ?_)
  refine HT.when (TV.eqI (EV.var 1) EV.int) (fun _ => HT.retNo (EV.methY (i := (y, z)) t3 hr tk (EV.var 0) (fun F v h => rObj.no h rfl) (AV.cons (EV.var 2) AV.nil) rfl ⟨hz, hA⟩ (fun s' h => (unk_ok hk h).elim) (fun C h => (known_err h).elim) (fun C fs h => unkF hk h fun σ F H' d ⟨l', _, dd⟩ hd => hF CU _ rfl H' d dd.eb hd))) (fun _ => ?_)
  exact HT.retNo (EV.methY (i := (y, z)) t4 hr tk (EV.var 0) (fun F v h => rObj.no h rfl) (AV.cons (EV.var 2) AV.nil) rfl ⟨hz, hA, hT⟩ (fun s' h => (unk_ok hk h).elim) (fun C h => (known_err h).elim) (fun C fs h => unkF hk h fun σ F H' d ⟨l', _, dd⟩ hd => hF CU _ rfl H' d dd.eb hd))
end
end K1

namespace K1
open PySem L2 Evl Lg PyProof.Rows L2H
section
variable {P : Program} {w : World} {K : PySem.W.Frag} {mg : Str → Option Value} {base : Heap} {CP CU CT CB : Addr}
theorem ok_lnH {f : Addr} {fd : FuncData} (F : Fun K "_law_is_name" "_law_is_name" sLawName f fd) (T : Tp K mg CP CU CT) : FnH P w K mg base (L2N.CX P w) 1 f fd ["_law_text"] spLN := by
  refine fn_okH F scLN (fun _ => rfl) fun z B cdv A' outer s H E p hot ⟨hp, hok⟩ hr _ => ?_
  have hc := hotH (CX := L2N.CX P w) (P := P) (w := w) (K := K) (mg := mg) (base := base) (N := nLN) (qual := "_law_is_name") (scope := defScope sLawName) (f := f) (cd := cdv) (outer := outer) (s := s) (H := H) (E := E) hot
  have hp : z.length ≤ 1000 := hp
  have nd := scLN.nd
  conv => arg 5; whnf
  show HT _ _ _ [some (im rS z), none] _
  have hl := cs_len z
  cases q : cs z with
  | nil =>
    rw [q] at hl
    have hl : z.length = 0 := hl.symm
    refine HT.when (TV.or (c2 := true) (TV.not (TV.leLe EV.int (EV.lenS (AV.cons (EV.var 0) AV.nil) (Nat.le_trans hp (by decide)) T.len) EV.int)) (fun h => ?_)) (fun h => HT.ret EV.bl ?_) (fun h => ?_)
    · exfalso; rw [hl] at h; exact absurd h (by decide)
    · show Rs.ok _ = Rs.ok _
      unfold nameB
      rw [q]
    · exfalso; rw [Bool.or_true] at h; cases h
  | cons c r =>
    rw [q] at hl
    have hl : r.length + 1 = z.length := hl
    refine HT.when (TV.or (TV.not (TV.leLe EV.int (EV.lenS (AV.cons (EV.var 0) AV.nil) (Nat.le_trans hp (by decide)) T.len) EV.int)) (fun h => TV.not (TV.leLeS EV.str (EV.chr (c := c) (EV.var 0) EV.int (by decide) (by decide) (by rw [q]; rfl)) EV.str))) (fun h => HT.ret EV.bl ?_) (fun h => ?_)
    · show Rs.ok _ = Rs.ok _
      unfold nameB
      rw [q]
      dsimp only
      rw [show ("a" : Str) = sg 97 from tA, show ("z" : Str) = sg 122 from tZ, leS_sg, leS_sg] at h
      by_cases h12 : z.length ≤ 12
      · rw [decide_eq_true h12]
        have : lower c = false := by
          unfold lower
          simp at h
          have : ¬ (97 ≤ c ∧ c ≤ 122) := by omega
          exact decide_eq_false this
        rw [this]; rfl
      · rw [decide_eq_false h12]; rfl
    · rw [show ("a" : Str) = sg 97 from tA, show ("z" : Str) = sg 122 from tZ, leS_sg, leS_sg] at h
      simp at h
      refine HT.ret (EV.eqW (x := (((cs z).map sg).filter fun x => !okC x).map fun x => x) (y := []) (Dw.str.lst Lis.pl) (by decide) hr.units (layAll _ _ fun a ha => ?_) rfl (EV.fz ?_) (EV.fz (EV.lst (R := rS) (as := []) AV.nil rfl (by decide)))) ?_
      · rw [List.map_id'] at ha
        obtain ⟨h1, _⟩ := List.mem_filter.mp ha
        obtain ⟨d, hd, rfl⟩ := List.mem_map.mp h1
        exact str_sg hok hd
      · exact EV.lcStrH (j := 1) (S := rS) hc (fun x : Str => !okC x) (fun x : Str => x) (EV.var 0) nd (by show blkC nLN (defScope sLawName) _ [("_law_char", 1)] = true; decide +kernel) (by omega) (fun b' i a s H0 C cl fp hb ha => TV.not (TV.or3 (TV.leLeS EV.str (EV.var 1) EV.str) (fun _ => TV.leLeS EV.str (EV.var 1) EV.str) (fun _ _ => TV.eqS (EV.var 1) EV.str))) (fun b' i a s H0 C cl fp hb ha hne => EV.var 1) (fun _ _ _ _ _ => pg_name nd rfl (Or.inl rfl))
      · show Rs.ok _ = Rs.ok _
        unfold nameB
        rw [q]
        dsimp only
        have h12 : z.length ≤ 12 := by omega
        have hlow : lower c = true := by unfold lower; exact decide_eq_true (by omega)
        rw [decide_eq_true h12, hlow, Bool.true_and, Bool.true_and, List.map_id']
        congr 3
        rw [Bool.eq_iff_iff, decide_eq_true_eq, List.filter_eq_nil_iff, List.all_eq_true]
        constructor
        · intro k x hx
          obtain ⟨d, hd, rfl⟩ := List.mem_map.mp hx
          rw [okC_sg, k d hd]; decide
        · intro k d hd
          have := k (sg d) (List.mem_map.mpr ⟨d, hd, rfl⟩)
          rw [okC_sg] at this
          simpa using this
theorem ok_rightH {f : Addr} {fd : FuncData} (F : Fun K "_law_tree_right" "_law_tree_right" sRight f fd) (T : Tp K mg CP CU CT) (TN : KnH P w K mg base 1 "_law_is_name" ["_law_text"] spLN) : FnH P w K mg base (L2N.CX P w) 2 f fd ["_law_areas"] spRight := by
  refine fn_okH F scRight (fun _ => rfl) fun l B cdv A' outer s H E p hot hp hr _ => ?_
  have hc := hotH (CX := L2N.CX P w) (P := P) (w := w) (K := K) (mg := mg) (base := base) (N := nRight) (qual := "_law_tree_right") (scope := defScope sRight) (f := f) (cd := cdv) (outer := outer) (s := s) (H := H) (E := E) hot
  have hp : Fine l := hp
  have hl := hp.1.1
  have nd := scRight.nd
  have tk : L2N.Takes (cxH (L2N.CX P w) P w K mg base nRight "_law_tree_right" (defScope sRight) f cdv A' outer s H E p) (fun cls d _ H => E cls d H) := L2N.takes_of rfl rfl rfl rfl
  conv => arg 5; whnf
  show HT _ _ _ [some (im (rL rArea) l), none, none] _
  refine HT.set 1 (EV.lst (R := rS) (as := []) AV.nil rfl (by decide)) ?_ nd
  refine HT.forH hc (AV.cons (EV.lenL (AV.cons (EV.var 0) AV.nil) T.len) AV.nil) (by omega) T.rng (fun k Γ => Γ = [some (im (rL rArea) l), some (ow rS ((l.take k).map (·.1))), none] ∧ seqB [] (l.take k) = true) ⟨rfl, rfl⟩ ?_ ?_ (passes_of rfl)
  · rintro b' i y Γ' hb hi rfl ⟨rfl, hseq⟩
    have hi : i < l.length := by omega
    have hx : l[i]? = some (l[i]) := List.getElem?_eq_getElem hi
    generalize l[i] = x at hx
    obtain ⟨n, o⟩ := x
    obtain ⟨ok1, _⟩ := hp.2 _ (List.mem_of_getElem? hx)
    have hz : n.length ≤ 1000 := hp.1.2 _ (List.mem_of_getElem? hx)
    have ht1 : l.take (i + 1) = l.take i ++ [(n, o)] := by rw [List.take_add_one, hx]; rfl
    have hlen : ((l.take i).map (·.1)).length = i := by rw [List.length_map, List.length_take]; omega
    have bad : fitsB ((l.take i).map (·.1)) n o = false → treeB l = false := fun hf => by
      unfold treeB
      have : seqB [] l = false := by
        conv => lhs; rw [← List.take_append_drop (i + 1) l, ht1, seqB_app, seqB_app, hseq]
        show (true && (fitsB ([] ++ (l.take i).map (·.1)) n o && true) && _) = false
        rw [List.nil_append, hf]; rfl
      rw [this]; rfl
    have good : fitsB ((l.take i).map (·.1)) n o = true → seqB [] (l.take (i + 1)) = true := fun hf => by
      rw [ht1, seqB_app, hseq]
      show (true && (fitsB ([] ++ (l.take i).map (·.1)) n o && true)) = true
      rw [List.nil_append, hf]; rfl
    have hti : (l.take (i + 1)).map (·.1) = (l.take i).map (·.1) ++ [n] := by rw [ht1, List.map_append]; rfl
    generalize hns : (l.take i).map (·.1) = ns at hlen bad good hti
    refine ⟨_, GV.name 2 nd, ?_⟩
    refine HT.when (TV.or (TV.not (TV.val (EV.callH (i := n) TN (hr.mono (by decide)) hc tk (AV.cons (EV.ixP0 (x := n) (y := o) (R := rS) (S := rO rS) (EV.ixL (EV.var 0) (EV.var 2) (atI_nat hx))) AV.nil) ⟨hz, ok1⟩ rfl))) fun _ => TV.lend 1 rfl (TV.inF (x := n) Flat.str Lis.pl (EV.ixP0 (x := n) (y := o) (R := rS) (S := rO rS) (EV.ixL (EV.var 0) (EV.var 2) (atI_nat hx))) (EV.var 1))) (fun h => HT.ret EV.bl ?_) (fun h => ?_)
    · show Rs.ok _ = Rs.ok _
      rw [bad (by unfold fitsB; rw [if_pos h])]
    refine HT.when (TV.or (TV.and (TV.eqI (EV.var 2) EV.int) fun _ => TV.notNon (EV.ixP1 (x := n) (y := o) (R := rS) (S := rO rS) (EV.ixL (EV.var 0) (EV.var 2) (atI_nat hx))) (fun F v x h => by rw [show v = V.str x from h]; exact fun z => nomatch z)) fun _ => TV.and (TV.gt (EV.var 2) EV.int) fun _ => TV.lend 1 rfl (TV.ninF (x := o) (as := ns.map some) Flat.opt Lis.pl (EV.ixP1 (x := n) (y := o) (R := rS) (S := rO rS) (EV.ixL (EV.var 0) (EV.var 2) (atI_nat hx))) ((EV.var 1).to fun F v h => rL.conv some (fun _ _ _ h => h) h))) (fun h2 => HT.ret EV.bl ?_) (fun h2 => ?_)
    · show Rs.ok _ = Rs.ok _
      rw [bad ?_]
      unfold fitsB
      rw [h, if_neg (by decide)]
      by_cases z : ns = []
      · rw [if_pos z]
        rw [z] at hlen
        have h0 : i = 0 := hlen.symm
        subst h0
        cases o with
        | none => simp at h2
        | some q => rfl
      · rw [if_neg z]
        have h0 : ¬ i = 0 := fun e => z (List.length_eq_zero_iff.mp (hlen.trans e))
        cases o with
        | none => rfl
        | some q =>
          show decide (q ∈ ns) = false
          simp [h0] at h2
          exact decide_eq_false h2.2
    · have hf : fitsB ns n o = true := by
        unfold fitsB
        rw [h, if_neg (by decide)]
        by_cases z : ns = []
        · rw [if_pos z]
          rw [z] at hlen
          have h0 : i = 0 := hlen.symm
          subst h0
          cases o with
          | none => rfl
          | some q => simp at h2
        · rw [if_neg z]
          have h0 : ¬ i = 0 := fun e => z (List.length_eq_zero_iff.mp (hlen.trans e))
          have h1 : 0 < i := by omega
          cases o with
          | none => simp [h0, h1] at h2
          | some q =>
            show decide (q ∈ ns) = true
            simp [h0, h1] at h2
            exact decide_eq_true h2
      refine HT.append 1 rfl (EV.ixP0 (x := n) (y := o) (R := rS) (S := rO rS) (EV.ixL (EV.var 0) (EV.var 2) (atI_nat hx))) (by omega) ?_
      rw [← hti]
      exact HT.done (by repeat (first | exact Le.nil | apply Le.keep | apply Le.drop)) ⟨rfl, good hf⟩
  · rintro Γ' ⟨rfl, hseq⟩
    rw [show ((l.length : Int)).toNat = l.length by omega, List.take_length] at hseq
    refine HT.ret (EV.neW (x := l) (y := []) (Dw.lst Lis.pl Dw_area) (by decide) hr.units hp.lay rfl (EV.var 0) (EV.fz (EV.lst (R := rArea) (as := []) AV.nil rfl (by decide)))) ?_
    show Rs.ok _ = Rs.ok _
    unfold treeB
    rw [hseq]
    cases l <;> rfl
theorem ok_namesH {f : Addr} {fd : FuncData} (F : Fun K "names" "AreaTree.names" (sTree 1) f fd) (T : Tt K CT) (hl : mg "list" = none) : FnH P w K mg base (L2N.CX P w) 1 f fd ["self"] (spNames CT) := by
  refine fn_okH F scNames (fun _ => rfl) fun y B cdv A' outer s H E p hot _ hr _ => ?_
  conv => arg 5; whnf
  show HT _ _ _ [some (im (rTree CT) y)] _
  exact HT.ret (EV.listKH (hotH hot) Dic.lk (AV.cons (EV.fld (fs := treeF) (x := y) T.c (EV.var 0) rfl T.nP) AV.nil) (kvS_ks y) hl) rfl
end
end K1

namespace K1
open PySem L2 Evl Lg PyProof.Rows L2H
abbrev sLaw : Stmt := topS 21
theorem kids_no (y : Ar) (n : Str) : (kids y n).isEmpty = !decide (some n ∈ y.map (·.2)) := by
  unfold kids
  rw [List.isEmpty_map, Bool.eq_iff_iff]
  simp only [List.isEmpty_iff, List.filter_eq_nil_iff, Bool.not_eq_true', decide_eq_false_iff_not, List.mem_map, decide_eq_true_eq, not_exists, not_and]
theorem leaves_law (y : Ar) : ((y.map (·.1)).filter fun n => !decide (some n ∈ y.map (·.2))).map (fun n => n) = leavesOf y := by
  rw [List.map_id']
  unfold leavesOf
  congr 1
  funext n
  rw [kids_no]
theorem bstep_law {y : Ar} (h : treeB y = true) {j : Nat} {a : Str} {q : Option Str} (hj : y[j]? = some (a, q)) (l : List Str) : bstep y l a = if (mem? l q && !decide (a ∈ l)) = true then l ++ [a] else l := by
  unfold bstep
  rw [tree_at h hj]
  by_cases h1 : mem? l q = true
  · by_cases h2 : a ∈ l
    · simp [h1, h2]
    · simp [h1, h2]
  · simp [h1]
theorem lev_none (y : Ar) (k : Nat) : lev y k none = 0 := by cases k <;> rfl
theorem lev_zero (y : Ar) (o : Option Str) : lev y 0 o = 0 := by cases o <;> rfl
theorem mem_some {l : List Str} {o : Option Str} {i : Decidable (o ∈ l.map some)} : @decide (o ∈ l.map some) i = mem? l o := by
  rw [Bool.eq_iff_iff, decide_eq_true_eq]
  cases o with
  | none => simp [mem?]
  | some q => simp [mem?]
theorem treeNoL (CT : Addr) : NoL (rTree CT) := NoL.obj fun x p hp => by
  rcases List.mem_cons.mp hp with z | hp
  · rw [z]; exact NoL.dk (NoL.opt NoL.str)
  rcases List.mem_cons.mp hp with z | hp
  · rw [z]; exact NoL.dk (NoL.lk NoL.str)
  · rw [List.mem_singleton.mp hp]; exact NoL.str
theorem EV.someV {X : Cx} {b : Bs} {Γ : Lg.Ctx} {e : Expr} {a : Str} (h : EV X b Γ e (im rS a)) : EV X b Γ e (im (rO rS) (some a)) := h.to fun F v h => h
def others : List Str := ["nowhere", "", "Land"]
theorem tree_name {y : Ar} (h : treeB y = true) {n : Str} (hn : n ∈ y.map (·.1)) : nameB n = true := by
  obtain ⟨⟨n', q⟩, hm, rfl⟩ := List.mem_map.mp hn
  obtain ⟨j, hj⟩ := List.getElem?_of_mem hm
  have hf := seq_at (tree_seq h) hj
  unfold fitsB at hf
  split at hf
  · cases hf
  · rename_i z
    cases e : nameB n' with
    | true => rfl
    | false => rw [e] at z; exact absurd rfl z
theorem other_len : ∀ o ∈ others, o.length ≤ 1000 := by
  have : (others.all fun n => decide (n.length ≤ 1000)) = true := by decide +kernel
  intro n hn
  exact of_decide_eq_true (List.all_eq_true.mp this n hn)
theorem other_not {y : Ar} (h : treeB y = true) (hp : ∀ p ∈ y, PoolOk p) {o : Str} (ho : o ∈ others) : o ∉ y.map (·.1) := by
  intro hn
  have h1 := tree_name h hn
  obtain ⟨p, hm, rfl⟩ := List.mem_map.mp hn
  have h2 := (hp p hm).1
  have : (others.all fun n => !(nameB n && decide (n ∈ pool))) = true := by decide +kernel
  have q := List.all_eq_true.mp this _ ho
  rw [h1, decide_eq_true h2] at q
  exact absurd q (by decide)
theorem EV.and3V {X : Cx} {b : Bs} {Γ : Lg.Ctx} {e1 e2 e3 : Expr} {pos : Pos} {c1 c2 c3 : Bool} (h1 : EV X b Γ e1 (im rB c1)) (h2 : c1 = true → EV X b Γ e2 (im rB c2)) (h3 : c1 = true → c2 = true → EV X b Γ e3 (im rB c3)) : EV X b Γ (.BoolOp .And [e1, e2, e3] pos) (im rB (c1 && (c2 && c3))) := EV.of (pe_and pe_w (pe_and pe_w (pe_one pe_w))) (EvS.mki fun σ F H l g d Q q =>
  h1 σ F H l g d _ fun v F1 H1 l1 w p _ => ⟨c1, p.2, by
    cases c1 with
    | false => exact q _ F1 H1 w rfl
    | true =>
      exact h2 rfl σ F1 H1 l (g.grow w) (d.grow g.t w) _ fun v2 F2 H2 l2 w2 p2 _ => ⟨c2, p2.2, by
        have w12 := w.trans w2
        cases c2 with
        | false => exact q _ F2 H2 w12 rfl
        | true => exact h3 rfl rfl σ F2 H2 l (g.grow w12) (d.grow g.t w12) _ fun v3 F3 H3 l3 w3 p3 _ => q v3 F3 H3 (w12.trans w3) p3.2⟩⟩)
structure Tq (K : PySem.W.Frag) (mg : Str → Option Value) (CP CU CB : Addr) : Prop where
  bool : mg "bool" = none
  nm : mg "CellguardError" = some (.ref CB)
  np : mg "InvalidPlan" = some (.ref CP)
  nu : mg "UnknownName" = some (.ref CU)
  EP : ExcC K CP
  EU : ExcC K CU
  XU : XfC K CU
  nN : PySem.W.findIn K (.ref CU) "name" = some none
  kp : PySem.W.kitOne K (.ref CP) (.ref CP) = some true
  ku : PySem.W.kitOne K (.ref CU) (.ref CU) = some true
  xp : PySem.W.exmOne K (.ref CP) (.ref CB) = some true
  xu : PySem.W.exmOne K (.ref CU) (.ref CB) = some true
theorem Up.rfl' {b : Bs} : Up b b := ⟨rfl, Ex.refl _, fun _ h _ => h⟩
section
variable {P : Program} {w : World} {K : PySem.W.Frag} {mg : Str → Option Value} {base : Heap} {CP CU CT CB : Addr}
abbrev nLaw : List Str := ["_law_script", "_law_areas", "_law_area", "_law_handed", "_law_tree", "e", "_law_names", "_law_parents", "_law_leaves", "_law_one", "_law_children", "_law_below", "_law_level", "_law_line", "_law_k", "_law_other", "_law_name"]
theorem scLaw : FnScope nLaw ["_law_script"] (defScope sLaw) := ⟨rfl, rfl, rfl, by decide +kernel, rfl, by decide +kernel, by decide +kernel⟩
def spLaw (K : PySem.W.Frag) : Sp := spX (ι := List Int) (fun i => [mk (rSc K) i]) (fun i => i.length ≤ 63) (fun _ => .ok (im rB true))
theorem ok_law {f : Addr} {fd : FuncData} (F : Fun K "law" "law" sLaw f fd) (T : Tp K mg CP CU CT) (Tt : Tt K CT) (Tq : Tq K mg CP CU CB)
    (tCell : Kn P w K mg base 1 "_law_cell" ["_law_script", "_law_k"] (spCell K)) (tNum : Kn P w K mg base 1 "_law_numbers" ["_law_script", "_law_first", "_law_most"] (spNum K))
    (tAny : Kn P w K mg base 1 "_law_any_areas" ["_law_numbers_here"] spAny) (tIs : Kn P w K mg base 1 "is_name" ["text"] spIsName) (tLN : Kn P w K mg base 1 "_law_is_name" ["_law_text"] spLN)
    (tR : Kn P w K mg base 2 "_law_tree_right" ["_law_areas"] spRight) (tI : KnI P w K mg base 4 CT "AreaTree" ["self", "areas"] (spTI CP CT))
    (tN : KnM P w K mg base 1 CT "names" ["self"] (spNames CT)) (tL : KnM P w K mg base 1 CT "leaves" ["self"] (spLeaves CT))
    (t0 : KnM P w K mg base 4 CT "parent" ["self", "name"] (spOf CT CU fun y n => im (rO rS) (parOf y n))) (t1 : KnM P w K mg base 4 CT "children" ["self", "name"] (spOf CT CU fun y n => ow rS (kids y n)))
    (t2 : KnM P w K mg base 4 CT "leaves_below" ["self", "name"] (spOf CT CU fun y n => ow rS ((leavesOf y).filter fun x => decide (x ∈ belowL y n)))) (t3 : KnM P w K mg base 4 CT "is_leaf" ["self", "name"] (spOf CT CU fun y n => im rB (kids y n).isEmpty))
    (t4 : KnM P w K mg base 4 CT "level" ["self", "name"] (spLevel CT CU)) (tC : Kn P w K mg base 5 "_law_call" nCL (spCL CT CU)) (tRH : KnH P w K mg base 2 "_law_tree_right" ["_law_areas"] spRight) (tNH : KnMH P w K mg base 1 CT "names" ["self"] (spNames CT)) :
    FnOk P w K mg base (L2N.CX P w) 6 f fd ["_law_script"] (spLaw K) := by
  refine fn_ok F scLaw (fun _ => rfl) fun ns B cdv A' outer0 s H E hp hr _ => ?_
  have hp : ns.length ≤ 63 := hp
  have nd := scLaw.nd
  have hu := u1 hr
  have tk : L2N.Takes (cxOf (L2N.CX P w) P w K mg base nLaw "law" (defScope sLaw) f cdv A' outer0 s H E) (fun cls d _ H => E cls d H) := L2N.takes_of rfl rfl rfl rfl
  conv => arg 5; whnf
  show HT _ _ _ [some (im (rSc K) ns), none, none, none, none, none, none, none, none, none, none, none, none, none, none, none, none] _
  refine HT.setR 1 (EVR.call tAny (hr.mono (by decide)) tk (AV.cons (EV.call (i := (ns, 1, 10)) tNum (hr.mono (by decide)) tk (AV.cons (EV.var 0) (AV.cons EV.int (AV.cons EV.int AV.nil))) ⟨hp, by show (0 : Int) ≤ 1 ∧ (1 : Int) ≤ 1000; decide, by show (0 : Int) ≤ 10 ∧ (10 : Int) ≤ 1000; decide⟩ rfl) AV.nil) (numbers_ok ns 1 (by decide))) (fun s' hs => ?_) nd
  obtain ⟨y, hl10, hpool, rfl⟩ := hs
  have fine := pool_fine hl10 hpool
  have hA := fine.1
  have nlen : ∀ p ∈ y, p.1.length ≤ 1000 := hA.2
  refine HT.for (IV.list (EV.var 1)) (fun _ Γ => Γ = [some (im (rSc K) ns), some (im (rL rArea) y), none, none, none, none, none, none, none, none, none, none, none, none, none, none, none]) rfl ?_ ?_ (passes_of rfl)
  · rintro b' i yy Γ' hb hi ⟨⟨n, o⟩, hx, rfl⟩ rfl
    have hm := List.mem_of_getElem? hx
    have hz : n.length ≤ 1000 := nlen _ hm
    have a0 : ∀ {X : Cx} {b : Bs} {Γ : Lg.Ctx} {e : Expr} {pos p2 : Pos} {k : Nat}, EV X b Γ e (im rArea (n, o)) → EV X b Γ (.Subscript e (.Constant (.int 0) k p2) pos) (im rS n) := fun h => EV.ixP0 (x := n) (y := o) (R := rS) (S := rO rS) h
    refine ⟨_, GV.name 2 nd, ?_⟩
    refine HT.when (TV.or (TV.nev (EV.call (i := n) tIs (hr.mono (by decide)) tk (AV.cons (a0 (EV.var 2)) AV.nil) hz rfl) (EV.call (i := n) tLN (hr.mono (by decide)) tk (AV.cons (a0 (EV.var 2)) AV.nil) ⟨hz, (fine.2 _ hm).1⟩ rfl) (v := .bl (nameB n)) (w := .bl (nameB n)) (fun _ _ h => h) (fun _ _ h => h) rfl) fun _ => TV.not (TV.val (EV.isBool (EV.call (i := n) tIs (hr.mono (by decide)) tk (AV.cons (a0 (EV.var 2)) AV.nil) hz rfl) T.isi Tq.bool))) (fun h => ?_) (fun _ => ?_)
    · exfalso; rw [decide_eq_true rfl] at h; exact absurd h (by decide)
    · exact HT.done (by repeat (first | exact Le.nil | apply Le.keep | apply Le.drop)) rfl
  rintro Γ' rfl
  refine HT.set 3 (EV.listOf (AV.cons (EV.var 1) AV.nil) T.lst) ?_ nd
  by_cases hT : treeB y = true
  case neg =>
    have hF : treeB y = false := by simpa using hT
    refine HT.tryAsF 5 ⟨rfl, by decide, .inl Tq.nm⟩ tk (fun W pn xE tk2 po hX _ => ?_) nd
    have hri : (if treeB y then Except.ok y else Except.error CP) = (Except.error CP : Except Addr Ar) := if_neg hT
    refine HT.setNo 4 (EV.lendNo 3 rfl (EV.makeG (k := 4) (i := y) (s := noS) tI (hr.mono (by decide)) tk2 (AV.cons (EV.var 3) AV.nil) hA (fun y' h => nomatch (hri.symm.trans h)) (fun C h => ?_))) nd
    cases hri.symm.trans h
    refine hX _ CP _ Up.rfl' Tq.xp fun a oe pn hz hf => ?_
    refine HT.ret (EV.andV (EV.isE Tq.EP hz hf 5 rfl T.isi Tq.np Tq.kp) fun _ => EV.notV (EV.callH (k := 2) (i := y) (W := fun _ _ _ _ => False) tRH (roomH_mark (hr.mono (by decide)) _) (hotSuite hz hf) takesN0 (AV.cons (EV.var 1) AV.nil) fine rfl)) ?_
    show Rs.ok _ = Rs.ok _
    rw [hF]; rfl
  case pos =>
    have hne : y ≠ [] := fun z => by rw [z] at hT; exact absurd hT (by decide)
    have hnd := tree_nodup hT
    have nstr : ∀ n ∈ y.map (·.1), (PyData.str n).canLay0 = true := fun n hn => by
      obtain ⟨p, hp, rfl⟩ := List.mem_map.mp hn
      exact (fine.2 p hp).1
    have hri : (if treeB y then Except.ok y else Except.error CP) = (Except.ok y : Except Addr Ar) := if_pos hT
    refine HT.tryAsF 5 ⟨rfl, by decide, .inl Tq.nm⟩ tk (fun W pn xE tk2 po _ _ => ?_) nd
    refine HT.set 4 (EV.lend 3 rfl (treeNoL CT) (EV.make (k := 4) (i := y) (y := y) tI (hr.mono (by decide)) tk2 (AV.cons (EV.var 3) AV.nil) hA (fun y' h => ?_) (fun C h => ?_))) ?_ nd
    · cases hri.symm.trans h; rfl
    · cases hri.symm.trans h
    refine HT.nil ?_
    refine HT.when (TV.not (TV.val (EV.call (i := y) tR (hr.mono (by decide)) tk (AV.cons (EV.var 1) AV.nil) fine rfl))) (fun h => ?_) (fun _ => ?_)
    · exfalso; rw [hT] at h; cases h
    refine HT.append 3 rfl (EV.pair (R := rS) (S := rO rS) (x := "more") (y := some "land") (AV.cons EV.str (AV.cons (EV.str.to (S := rO rS) (y := some "land") fun F v h => h) AV.nil))) (by omega) ?_
    have bl : ∀ (v : Str) (j : Nat), True := fun _ _ => trivial
    refine HT.setC 6 (LV.lcL0 (j := 2) (S := rS) (fun p : Str × Option Str => p.1) (IV.list (EV.var 1)) nd (by show blkC nLaw (defScope sLaw) _ [("_law_area", 2)] = true; decide +kernel) (by omega) (fun b' i a s H0 C cl fp hb ha => EV.ixP0 (x := a.1) (y := a.2) (R := rS) (S := rO rS) (EV.var 2)) (fun _ _ _ _ _ => pg_name nd rfl (Or.inl rfl))) ?_ (sw_true rfl rfl rfl (by decide +kernel))
    refine HT.frz 6 rfl ?_
    refine HT.set 7 (LV.ev (LV.lcL0 (j := 2) (S := rO rS) (fun p : Str × Option Str => p.2) (IV.list (EV.var 1)) nd (by show blkC nLaw (defScope sLaw) _ [("_law_area", 2)] = true; decide +kernel) (by omega) (fun b' i a s H0 C cl fp hb ha => EV.ixP1 (x := a.1) (y := a.2) (R := rS) (S := rO rS) (EV.var 2)) (fun _ _ _ _ _ => pg_name nd rfl (Or.inl rfl)))) ?_ nd
    refine HT.frz 7 rfl ?_
    refine HT.setC 8 (LV.lcL1 (j := 16) (S := rS) (fun n : Str => !decide (some n ∈ y.map (·.2))) (fun n : Str => n) (IV.list (EV.var 6)) nd (by show blkC nLaw (defScope sLaw) _ [("_law_name", 16)] = true; decide +kernel) (by rw [List.length_map]; omega) (fun b' i a s H0 C cl fp hb ha => ?_) (fun b' i a s H0 C cl fp hb ha hne => EV.var 16) (fun _ _ _ _ _ => pg_name nd rfl (Or.inl rfl))) ?_ (sw_true rfl rfl rfl (by decide +kernel))
    · refine TV.cast (TV.ninF (x := some a) Flat.opt Lis.pl (EV.someV (EV.var 16)) (EV.var 7)) ?_
      exact congrArg _ (decide_eq_decide.mpr Iff.rfl)
    rw [leaves_law]
    refine HT.frz 8 rfl ?_
    refine HT.weak (Γ' := [some (im (rSc K) ns), some (im (rL rArea) y), none, none, some (im (rTree CT) y), none, some (im (rL rS) (y.map (·.1))), none, some (im (rL rS) (leavesOf y)), none, none, none, none, none, none, none, none]) (by repeat (first | exact Le.nil | apply Le.keep | apply Le.drop)) ?_
    have lstr : ∀ n ∈ leavesOf y, (PyData.str n).canLay0 = true := fun n hn => nstr n (List.mem_filter.mp hn).1
    have hroot : (y.map (·.1))[0]? = some (rootOf y) := by
      cases y with
      | nil => exact absurd rfl hne
      | cons p r => rfl
    refine HT.when (TV.or3 (TV.neW (x := y.map (·.1)) (y := y.map (·.1)) (Dw.str.lst Lis.pl) (by decide) hr.units (layAll _ _ nstr) (layAll _ _ nstr) (EV.fz (EV.meth0 (i := y) tN (hr.mono (by decide)) tk (EV.var 4) (fun F v h => rObj.no h rfl) rfl trivial rfl)) (EV.var 6)) (fun _ => TV.neS (EV.fld (fs := treeF) (x := y) Tt.c (EV.var 4) rfl Tt.nR) (EV.ixL (EV.var 6) EV.int (atI_nat hroot))) (fun _ _ => TV.neW (x := leavesOf y) (y := leavesOf y) (Dw.str.lst Lis.pl) (by decide) hr.units (layAll _ _ lstr) (layAll _ _ lstr) (EV.fz (EV.meth0 (i := y) tL (hr.mono (by decide)) tk (EV.var 4) (fun F v h => rObj.no h rfl) rfl hA rfl)) (EV.var 8))) (fun h => ?_) (fun _ => ?_)
    · exfalso; rw [decide_eq_true rfl, decide_eq_true rfl, decide_eq_true rfl] at h; exact absurd h (by decide)
    refine HT.appTmp (EV.meth0 (i := y) tN (hr.mono (by decide)) tk (EV.var 4) (fun F v h => rObj.no h rfl) rfl trivial rfl) EV.str (by rw [List.length_map]; omega) ?_
    refine HT.for (IV.list (EV.var 1)) (fun _ Γ => Γ = [some (im (rSc K) ns), some (im (rL rArea) y), none, none, some (im (rTree CT) y), none, some (im (rL rS) (y.map (·.1))), none, some (im (rL rS) (leavesOf y)), none, none, none, none, none, none, none, none]) rfl ?_ ?_ (passes_of rfl)
    · rintro b' i yy Γ' hb hi ⟨⟨n, o⟩, hx, rfl⟩ rfl
      have hm := List.mem_of_getElem? hx
      have hz : n.length ≤ 1000 := nlen _ hm
      have hk : n ∈ y.map (·.1) := List.mem_map.mpr ⟨_, hm, rfl⟩
      have hpar : parOf y n = o := tree_at hT hx
      have q0 : ∀ {X : Cx} {b : Bs} {Γ : Lg.Ctx} {e : Expr} {pos p2 : Pos} {k : Nat} {p : Str × Option Str}, EV X b Γ e (im rArea p) → EV X b Γ (.Subscript e (.Constant (.int 0) k p2) pos) (im rS p.1) := fun h => EV.ixP0 (R := rS) (S := rO rS) h
      have q1 : ∀ {X : Cx} {b : Bs} {Γ : Lg.Ctx} {e : Expr} {pos p2 : Pos} {k : Nat} {p : Str × Option Str}, EV X b Γ e (im rArea p) → EV X b Γ (.Subscript e (.Constant (.int 1) k p2) pos) (im (rO rS) p.2) := fun h => EV.ixP1 (R := rS) (S := rO rS) h
      have kstr : ∀ m ∈ kids y n, (PyData.str m).canLay0 = true := fun m hm => by
        obtain ⟨p, hp, rfl⟩ := List.mem_map.mp hm
        exact nstr _ (List.mem_map.mpr ⟨p, (List.mem_filter.mp hp).1, rfl⟩)
      refine ⟨_, GV.name 2 nd, ?_⟩
      refine HT.setC 10 (LV.lcL1 (j := 9) (S := rS) (fun p : Str × Option Str => decide (p.2 = some n)) (fun p : Str × Option Str => p.1) (IV.list (EV.var 1)) nd (by show blkC nLaw (defScope sLaw) _ [("_law_one", 9)] = true; decide +kernel) (by omega) (fun b' i a s H0 C cl fp hb ha => ?_) (fun b' i a s H0 C cl fp hb ha hne => ?_) (fun _ _ _ _ _ => pg_name nd rfl (Or.inl rfl))) ?_ (sw_true rfl rfl rfl (by decide +kernel))
      · refine TV.cast (TV.eqv (q1 (p := a) (EV.var 9)) (q0 (p := (n, o)) (EV.var 2)) (v := oV V.str a.2) (w := .str n) (fun F u h => Flat.opt.u h) (fun F u h => h) (by obtain ⟨_, o'⟩ := a; cases o' <;> rfl)) ?_
        obtain ⟨_, o'⟩ := a
        cases o' with
        | none => rfl
        | some m => simp [oV]
      · exact q0 (p := a) (EV.var 9)
      show HT _ _ _ [some (im (rSc K) ns), some (im (rL rArea) y), some (im rArea (n, o)), none, some (im (rTree CT) y), none, some (im (rL rS) (y.map (·.1))), none, some (im (rL rS) (leavesOf y)), none, some (ow rS (kids y n)), none, none, none, none, none, none] _
      refine HT.frz 10 rfl ?_
      refine HT.when (TV.or (TV.nev (EV.methY (i := (y, n)) t0 (hr.mono (by decide)) tk (EV.var 4) (fun F v h => rObj.no h rfl) (AV.cons (q0 (p := (n, o)) (EV.var 2)) AV.nil) rfl ⟨hz, hA⟩ (known_ok hk) (fun C h => (known_err h).elim) (fun C fs h => (known_noF hk h).elim)) (q1 (p := (n, o)) (EV.var 2)) (v := oV V.str o) (w := oV V.str o) (fun F u h => by rw [← hpar]; exact Flat.opt.u h) (fun F u h => Flat.opt.u h) (by cases o <;> rfl))
        fun _ => TV.neW (x := kids y n) (y := kids y n) (Dw.str.lst Lis.pl) (by decide) hr.units (layAll _ _ kstr) (layAll _ _ kstr) (EV.fz (EV.methY (i := (y, n)) t1 (hr.mono (by decide)) tk (EV.var 4) (fun F v h => rObj.no h rfl) (AV.cons (q0 (p := (n, o)) (EV.var 2)) AV.nil) rfl ⟨hz, hA⟩ (known_ok hk) (fun C h => (known_err h).elim) (fun C fs h => (known_noF hk h).elim))) (EV.var 10)) (fun h => ?_) (fun _ => ?_)
      · exfalso; rw [decide_eq_true rfl, decide_eq_true rfl] at h; exact absurd h (by decide)
      refine HT.set 11 (EV.lst (R := rS) (as := [n]) (AV.cons (q0 (p := (n, o)) (EV.var 2)) AV.nil) rfl (by show 1 ≤ 1000; decide)) ?_ nd
      refine HT.for (IV.list (EV.var 1)) (fun k Γ => Γ = [some (im (rSc K) ns), some (im (rL rArea) y), some (im rArea (n, o)), none, some (im (rTree CT) y), none, some (im (rL rS) (y.map (·.1))), none, some (im (rL rS) (leavesOf y)), none, some (im (rL rS) (kids y n)), some (ow rS (((y.map (·.1)).take k).foldl (bstep y) [n])), none, none, none, none, none]) rfl ?_ ?_ (passes_of rfl)
      · rintro b2 j yy Γ' hb2 hj ⟨⟨a, q⟩, ha, rfl⟩ rfl
        have ht1 : (y.map (·.1)).take (j + 1) = (y.map (·.1)).take j ++ [a] := by rw [List.take_add_one, List.getElem?_map, ha]; rfl
        have hlen : (((y.map (·.1)).take j).foldl (bstep y) [n]).length ≤ 1 + y.length := by
          have := fold_len y ((y.map (·.1)).take j) [n]
          have h2 : ((y.map (·.1)).take j).length ≤ y.length := by rw [List.length_take, List.length_map]; omega
          have h3 : [n].length = 1 := rfl
          omega
        rw [ht1, List.foldl_append, List.foldl_cons, List.foldl_nil]
        generalize ((y.map (·.1)).take j).foldl (bstep y) [n] = l at hlen
        rw [bstep_law hT ha]
        refine ⟨_, GV.name 9 nd, ?_⟩
        refine HT.when (TV.and ((TV.lend 11 rfl (TV.inF (x := q) (as := l.map some) Flat.opt Lis.pl (q1 (p := (a, q)) (EV.var 9)) ((EV.var 11).to fun F v h => rL.conv some (fun _ _ _ h => h) h))).cast mem_some) fun _ => TV.lend 11 rfl (TV.ninF (x := a) Flat.str Lis.pl (q0 (p := (a, q)) (EV.var 9)) (EV.var 11))) (fun h => ?_) (fun h => ?_)
        · rw [if_pos h]
          refine HT.append 11 rfl (q0 (p := (a, q)) (EV.var 9)) (by omega) ?_
          exact HT.nil (HT.done (by repeat (first | exact Le.nil | apply Le.keep | apply Le.drop)) rfl)
        · rw [if_neg (by rw [h]; decide)]
          exact HT.done (by repeat (first | exact Le.nil | apply Le.keep | apply Le.drop)) rfl
      rintro Γ' rfl
      rw [show y.length = (y.map (·.1)).length by rw [List.length_map], List.take_length]
      show HT _ _ _ [some (im (rSc K) ns), some (im (rL rArea) y), some (im rArea (n, o)), none, some (im (rTree CT) y), none, some (im (rL rS) (y.map (·.1))), none, some (im (rL rS) (leavesOf y)), none, some (im (rL rS) (kids y n)), some (ow rS (belowL y n)), none, none, none, none, none] _
      refine HT.frz 11 rfl ?_
      have bstr : ∀ m ∈ (leavesOf y).filter (fun x => decide (x ∈ belowL y n)), (PyData.str m).canLay0 = true := fun m hm => lstr m (List.mem_filter.mp hm).1
      have ll : (leavesOf y).length ≤ y.length := by
        have : (leavesOf y).length ≤ (y.map (·.1)).length := List.length_filter_le _ _
        rwa [List.length_map] at this
      refine HT.when (TV.neW (x := (leavesOf y).filter (fun x => decide (x ∈ belowL y n))) (y := ((leavesOf y).filter fun x => decide (x ∈ belowL y n)).map fun x => x) (Dw.str.lst Lis.pl) (by decide) hr.units (layAll _ _ bstr) (by rw [List.map_id']; exact layAll _ _ bstr) (EV.fz (EV.methY (i := (y, n)) t2 (hr.mono (by decide)) tk (EV.var 4) (fun F v h => rObj.no h rfl) (AV.cons (q0 (p := (n, o)) (EV.var 2)) AV.nil) rfl ⟨hz, hA⟩ (known_ok hk) (fun C h => (known_err h).elim) (fun C fs h => (known_noF hk h).elim)))
        (EV.fz (LV.ev (LV.lcL1 (j := 16) (S := rS) (fun x : Str => decide (x ∈ belowL y n)) (fun x : Str => x) (IV.list (EV.var 8)) nd (by show blkC nLaw (defScope sLaw) _ [("_law_name", 16)] = true; decide +kernel) (by omega) (fun b' i a s H0 C cl fp hb ha => ?_) (fun b' i a s H0 C cl fp hb ha hne => EV.var 16) (fun _ _ _ _ _ => pg_name nd rfl (Or.inl rfl)))))) (fun h => ?_) (fun _ => ?_)
      · exact TV.inF (x := a) (as := belowL y n) Flat.str Lis.pl (EV.var 16) (EV.var 11)
      · exfalso; rw [List.map_id', decide_eq_true rfl] at h; exact absurd h (by decide)
      refine HT.set 12 EV.int ?_ nd
      refine HT.set 13 (EV.var 2) ?_ nd
      refine HT.for (IV.rng1 (AV.cons (EV.lenL (AV.cons (EV.var 1) AV.nil) T.len) AV.nil) (by omega) T.rng) (fun k Γ => ∃ (lv : Int) (a : Str) (q : Option Str), Γ = [some (im (rSc K) ns), some (im (rL rArea) y), some (im rArea (n, o)), none, some (im (rTree CT) y), none, some (im (rL rS) (y.map (·.1))), none, some (im (rL rS) (leavesOf y)), none, some (im (rL rS) (kids y n)), some (im (rL rS) (belowL y n)), some (im rI lv), some (im rArea (a, q)), none, none, none] ∧ lv + lev y (y.length - k) q = levelOf y n ∧ ∃ j : Nat, y[j]? = some (a, q)) ?_ ?_ ?_ (passes_of rfl)
      · refine ⟨0, n, o, rfl, ?_, i, hx⟩
        rw [Int.zero_add, ← hpar]; rfl
      · rintro b2 k yy Γ' hb2 hkl rfl ⟨lv, a, q, rfl, hlv, j, hj⟩
        have hkl : k < y.length := by omega
        refine ⟨_, GV.name 14 nd, ?_⟩
        refine HT.when (TV.notNon (q1 (p := (a, q)) (EV.var 13)) (fun F v x h => by rw [show v = V.str x from h]; exact fun z => nomatch z)) (fun h => ?_) (fun h => ?_)
        · cases q with
          | none => cases h
          | some c =>
            obtain ⟨jc, qc, _, hjc⟩ := tree_par hT hj
            have hnc : (y.map (·.1))[jc]? = some c := by rw [List.getElem?_map, hjc]; rfl
            refine HT.set 12 (EV.add (EV.var 12) EV.int) ?_ nd
            refine HT.set 13 (EV.ixL (EV.var 1) (EV.index (x := c) (j := jc) Flat.str Lis.pl (EV.var 6) ((q1 (p := (a, some c)) (EV.var 13)).to fun F v h => h) hnc (fun m hm e => ?_)) (atI_nat hjc)) ?_ nd
            · have h1 : jc < (y.map (·.1)).length := (List.getElem?_eq_some_iff.mp hnc).1
              have h2 := (List.getElem?_eq_some_iff.mp e)
              have := (List.pairwise_iff_getElem.mp hnd) m jc h2.1 h1 hm
              rw [h2.2, (List.getElem?_eq_some_iff.mp hnc).2] at this
              exact this rfl
            refine HT.nil (HT.done (by repeat (first | exact Le.nil | apply Le.keep | apply Le.drop)) ⟨lv + 1, c, qc, rfl, ?_, jc, hjc⟩)
            rw [← hlv, show y.length - k = (y.length - (k + 1)) + 1 by omega]
            show lv + 1 + lev y _ qc = lv + (1 + lev y _ (parOf y c))
            rw [tree_at hT hjc]; omega
        · cases q with
          | some c => cases h
          | none =>
            refine HT.done (by repeat (first | exact Le.nil | apply Le.keep | apply Le.drop)) ⟨lv, a, none, rfl, ?_, j, hj⟩
            rw [← hlv, lev_none, lev_none]
      rintro Γ' ⟨lv, a, q, rfl, hlv, j, hj⟩
      rw [show y.length - ((y.length : Int)).toNat = 0 by omega, lev_zero, Int.add_zero] at hlv
      subst hlv
      refine HT.when (TV.or (TV.neI (EV.methY (i := (y, n)) t4 (hr.mono (by decide)) tk (EV.var 4) (fun F v h => rObj.no h rfl) (AV.cons (q0 (p := (n, o)) (EV.var 2)) AV.nil) rfl ⟨hz, hA, hT⟩ (known_ok hk) (fun C h => (known_err h).elim) (fun C fs h => (known_noF hk h).elim)) (EV.var 12))
        fun _ => TV.nev (EV.methY (i := (y, n)) t3 (hr.mono (by decide)) tk (EV.var 4) (fun F v h => rObj.no h rfl) (AV.cons (q0 (p := (n, o)) (EV.var 2)) AV.nil) rfl ⟨hz, hA⟩ (known_ok hk) (fun C h => (known_err h).elim) (fun C fs h => (known_noF hk h).elim)) (EV.eqW (x := kids y n) (y := []) (Dw.str.lst Lis.pl) (by decide) hr.units (layAll _ _ kstr) rfl (EV.var 10) (EV.fz (EV.lst (R := rS) (as := []) AV.nil rfl (by decide)))) (v := .bl (kids y n).isEmpty) (w := .bl (decide (kids y n = []))) (fun _ _ h => h) (fun _ _ h => h) rfl) (fun h => ?_) (fun _ => ?_)
      · exfalso
        have e : V.bl (kids y n).isEmpty = V.bl (decide (kids y n = [])) := by
          cases kids y n <;> rfl
        rw [decide_eq_true rfl, decide_eq_true e] at h
        exact absurd h (by decide)
      · exact HT.done (by repeat (first | exact Le.nil | apply Le.keep | apply Le.drop)) rfl
    rintro Γ' rfl
    have c0 : 0 ≤ absV' (cellV ns 0) := absV_nn _
    refine HT.set 15 (EV.ixL (EV.fz (EV.lst (R := rS) (as := others) (AV.cons EV.str (AV.cons EV.str (AV.cons EV.str AV.nil))) rfl (by decide))) (EV.mod (EV.abs (AV.cons (EV.call (i := (ns, 0)) tCell (hr.mono (by decide)) tk (AV.cons (EV.var 0) (AV.cons EV.int AV.nil)) (by show (0 : Int) ≤ 0; decide) rfl) AV.nil) T.abs) EV.int (by decide)) (at_i ("" : Str) (Int.emod_nonneg _ (by decide)) (Int.emod_lt_of_pos _ (by decide)))) ?_ nd
    have hot : others.getD ((if cellV ns 0 < 0 then -cellV ns 0 else cellV ns 0) % 3).toNat "" ∈ others := getD_mem (Int.emod_nonneg _ (by decide)) (Int.emod_lt_of_pos _ (by decide))
    generalize others.getD ((if cellV ns 0 < 0 then -cellV ns 0 else cellV ns 0) % 3).toNat "" = ot at hot
    have hok : ot ∉ y.map (·.1) := other_not hT hpool hot
    have hol : ot.length ≤ 1000 := other_len ot hot
    refine HT.tryAsF 5 ⟨rfl, by decide, .inl Tq.nm⟩ tk (fun W pn xE tk2 po _ hXF => ?_) nd
    refine HT.exprNo (EV.callY (k := 5) (i := (y, cellV ns 0 % 5, ot)) tC (hr.mono (by decide)) tk2 (AV.cons (EV.var 4) (AV.cons (EV.mod (EV.toInt (AV.cons (EV.call (i := (ns, 0)) tCell (hr.mono (by decide)) tk2 (AV.cons (EV.var 0) (AV.cons EV.int AV.nil)) (by show (0 : Int) ≤ 0; decide) rfl) AV.nil) T.int) EV.int (by decide)) (AV.cons (EV.var 15) AV.nil))) ⟨hol, hA, hT, hok⟩ (fun s' h => nomatch h) (fun C h => nomatch h) (fun C fs h => ?_))
    have h : Ry.errF CU [("name", V.str ot)] = Ry.errF C fs := h
    cases h
    refine hXF _ CU _ _ Up.rfl' Tq.xu fun a d oe pn hz hf => ?_
    refine HT.ret (EV.and3V (EV.isEF Tq.EU hz hf 5 rfl T.isi Tq.nu Tq.ku) (fun _ => EV.eqS (EV.xf Tq.XU Tq.nN hz hf 5 rfl rfl) (EV.var 15)) (fun _ _ => EV.eqW (x := y.map (·.1)) (y := y.map (·.1)) (Dw.str.lst Lis.pl) (by decide) hr.units (layAll _ _ nstr) (layAll _ _ nstr) (EV.fz (EV.methH0 (i := y) (W := fun _ _ _ _ => False) tNH (roomH_mark (hr.mono (by decide)) _) (hotSuite hz hf) takesN0 (EV.var 4) (fun F v h => rObj.no h rfl) rfl trivial rfl)) (EV.var 6))) ?_
    show Rs.ok _ = Rs.ok _
    rw [decide_eq_true rfl, decide_eq_true rfl]; rfl
end
end K1

namespace K1
open PySem L2 Evl Lg PyProof.Rows
theorem all_mk {P : Program} {w : World} {K : PySem.W.Frag} {h : Heap} {mg : Str → Option Value} {fa CP CU CT CB fIsName fFits fChecked fUInit fTInit fNames fParent fChildren fLeaves fBelow fIsLeaf fLevel fCheck fCell fNumbers fAnyA fLName fRight fCallL fLaw : Addr} (X : K.In h) (G : h.Ns mainGlobals mg) (hfa : mg "law" = some (.ref fa))
    {odIsName anIsName odFits anFits odChecked anChecked odUInit anUInit odTInit anTInit odNames anNames odParent anParent odChildren anChildren odLeaves anLeaves odBelow anBelow odIsLeaf anIsLeaf odLevel anLevel odCheck anCheck odCell anCell odNumbers anNumbers odAnyA anAnyA odLName anLName odRight anRight odCallL anCallL odLaw anLaw : Option Addr} {slIsName slFits slChecked slUInit slTInit slNames slParent slChildren slLeaves slBelow slIsLeaf slLevel slCheck slCell slNumbers slAnyA slLName slRight slCallL slLaw : Array (Option Value)} {ocIsName kVIsName dcIsName pmIsName cdIsName ctIsName ocFits kVFits dcFits pmFits cdFits ctFits ocChecked kVChecked dcChecked pmChecked cdChecked ctChecked ocUInit kVUInit dcUInit pmUInit cdUInit ctUInit ocTInit kVTInit dcTInit pmTInit cdTInit ctTInit ocNames kVNames dcNames pmNames cdNames ctNames ocParent kVParent dcParent pmParent cdParent ctParent ocChildren kVChildren dcChildren pmChildren cdChildren ctChildren ocLeaves kVLeaves dcLeaves pmLeaves cdLeaves ctLeaves ocBelow kVBelow dcBelow pmBelow cdBelow ctBelow ocIsLeaf kVIsLeaf dcIsLeaf pmIsLeaf cdIsLeaf ctIsLeaf ocLevel kVLevel dcLevel pmLevel cdLevel ctLevel ocCheck kVCheck dcCheck pmCheck cdCheck ctCheck ocCell kVCell dcCell pmCell cdCell ctCell ocNumbers kVNumbers dcNumbers pmNumbers cdNumbers ctNumbers ocAnyA kVAnyA dcAnyA pmAnyA cdAnyA ctAnyA ocLName kVLName dcLName pmLName cdLName ctLName ocRight kVRight dcRight pmRight cdRight ctRight ocCallL kVCallL dcCallL pmCallL cdCallL ctCallL ocLaw kVLaw dcLaw pmLaw cdLaw ctLaw : Value}
    {nm q : Str} {NA : Addr} {bs : List Value} {sn : List Str} {sub : List Value} {ab : Bool} {col : Option Bool} {dd : Option Addr} {m0 m1 m2 m3 m5 : Option Value} {tL tC tN : _}
    (aB : PySem.W.nsIn K mainGlobals "CellguardError" = some (some (.ref CB))) (aP : PySem.W.nsIn K mainGlobals "InvalidPlan" = some (some (.ref CP))) (aU : PySem.W.nsIn K mainGlobals "UnknownName" = some (some (.ref CU))) (aT : PySem.W.nsIn K mainGlobals "AreaTree" = some (some (.ref CT)))
    (gL : PySem.W.nsIn K mainGlobals "LETTERS" = some (some (.str "abcdefghijklmnopqrstuvwxyz" tL))) (gC : PySem.W.nsIn K mainGlobals "NAME_CHARACTERS" = some (some (.str "abcdefghijklmnopqrstuvwxyz0123456789-" tC))) (gN : PySem.W.nsIn K mainGlobals "LONGEST_NAME" = some (some (.int 12 tN)))
    (xU : K.lookup CU = some (excClassObj nm q CU NA bs [.ref CB, .type "ValueError", .type "Exception", .type "BaseException", .type "object"] true sn sub ab col dd m0 m1 m2 m3 m5 "ValueError.__new__"))
    (aIsName : PySem.W.nsIn K mainGlobals "is_name" = some (some (.ref fIsName)))
    (lIsName : K.lookup fIsName = some ⟨ocIsName, odIsName, .func (PySem.W.fnOf "is_name" "is_name" (defArgs sIsName) (defBody sIsName) (defScope sIsName) .none kVIsName dcIsName pmIsName anIsName cdIsName ctIsName), slIsName⟩) (cIsName : PySem.W.codeIn K cdIsName "is_name" = true) (kIsName : PySem.W.keepIn K (.ref fIsName) = true)
    (aFits : PySem.W.nsIn K mainGlobals "area_fits" = some (some (.ref fFits)))
    (lFits : K.lookup fFits = some ⟨ocFits, odFits, .func (PySem.W.fnOf "area_fits" "area_fits" (defArgs sFits) (defBody sFits) (defScope sFits) .none kVFits dcFits pmFits anFits cdFits ctFits), slFits⟩) (cFits : PySem.W.codeIn K cdFits "area_fits" = true) (kFits : PySem.W.keepIn K (.ref fFits) = true)
    (aChecked : PySem.W.nsIn K mainGlobals "checked_parents" = some (some (.ref fChecked)))
    (lChecked : K.lookup fChecked = some ⟨ocChecked, odChecked, .func (PySem.W.fnOf "checked_parents" "checked_parents" (defArgs sChecked) (defBody sChecked) (defScope sChecked) .none kVChecked dcChecked pmChecked anChecked cdChecked ctChecked), slChecked⟩) (cChecked : PySem.W.codeIn K cdChecked "checked_parents" = true) (kChecked : PySem.W.keepIn K (.ref fChecked) = true)
    (aUInit : PySem.W.findIn K (.ref CU) "__init__" = some (some (.ref fUInit))) (iUInit : PySem.W.isFn K (.ref fUInit) = true)
    (lUInit : K.lookup fUInit = some ⟨ocUInit, odUInit, .func (PySem.W.fnOf "__init__" "UnknownName.__init__" (defArgs sUInit) (defBody sUInit) (defScope sUInit) .none kVUInit dcUInit pmUInit anUInit cdUInit ctUInit), slUInit⟩) (cUInit : PySem.W.codeIn K cdUInit "UnknownName.__init__" = true) (kUInit : PySem.W.keepIn K (.ref fUInit) = true)
    (aTInit : PySem.W.findIn K (.ref CT) "__init__" = some (some (.ref fTInit))) (iTInit : PySem.W.isFn K (.ref fTInit) = true)
    (lTInit : K.lookup fTInit = some ⟨ocTInit, odTInit, .func (PySem.W.fnOf "__init__" "AreaTree.__init__" (defArgs (sTree 0)) (defBody (sTree 0)) (defScope (sTree 0)) .none kVTInit dcTInit pmTInit anTInit cdTInit ctTInit), slTInit⟩) (cTInit : PySem.W.codeIn K cdTInit "AreaTree.__init__" = true) (kTInit : PySem.W.keepIn K (.ref fTInit) = true)
    (aNames : PySem.W.findIn K (.ref CT) "names" = some (some (.ref fNames))) (iNames : PySem.W.isFn K (.ref fNames) = true)
    (lNames : K.lookup fNames = some ⟨ocNames, odNames, .func (PySem.W.fnOf "names" "AreaTree.names" (defArgs (sTree 1)) (defBody (sTree 1)) (defScope (sTree 1)) .none kVNames dcNames pmNames anNames cdNames ctNames), slNames⟩) (cNames : PySem.W.codeIn K cdNames "AreaTree.names" = true) (kNames : PySem.W.keepIn K (.ref fNames) = true)
    (aParent : PySem.W.findIn K (.ref CT) "parent" = some (some (.ref fParent))) (iParent : PySem.W.isFn K (.ref fParent) = true)
    (lParent : K.lookup fParent = some ⟨ocParent, odParent, .func (PySem.W.fnOf "parent" "AreaTree.parent" (defArgs (sTree 2)) (defBody (sTree 2)) (defScope (sTree 2)) .none kVParent dcParent pmParent anParent cdParent ctParent), slParent⟩) (cParent : PySem.W.codeIn K cdParent "AreaTree.parent" = true) (kParent : PySem.W.keepIn K (.ref fParent) = true)
    (aChildren : PySem.W.findIn K (.ref CT) "children" = some (some (.ref fChildren))) (iChildren : PySem.W.isFn K (.ref fChildren) = true)
    (lChildren : K.lookup fChildren = some ⟨ocChildren, odChildren, .func (PySem.W.fnOf "children" "AreaTree.children" (defArgs (sTree 3)) (defBody (sTree 3)) (defScope (sTree 3)) .none kVChildren dcChildren pmChildren anChildren cdChildren ctChildren), slChildren⟩) (cChildren : PySem.W.codeIn K cdChildren "AreaTree.children" = true) (kChildren : PySem.W.keepIn K (.ref fChildren) = true)
    (aLeaves : PySem.W.findIn K (.ref CT) "leaves" = some (some (.ref fLeaves))) (iLeaves : PySem.W.isFn K (.ref fLeaves) = true)
    (lLeaves : K.lookup fLeaves = some ⟨ocLeaves, odLeaves, .func (PySem.W.fnOf "leaves" "AreaTree.leaves" (defArgs (sTree 4)) (defBody (sTree 4)) (defScope (sTree 4)) .none kVLeaves dcLeaves pmLeaves anLeaves cdLeaves ctLeaves), slLeaves⟩) (cLeaves : PySem.W.codeIn K cdLeaves "AreaTree.leaves" = true) (kLeaves : PySem.W.keepIn K (.ref fLeaves) = true)
    (aBelow : PySem.W.findIn K (.ref CT) "leaves_below" = some (some (.ref fBelow))) (iBelow : PySem.W.isFn K (.ref fBelow) = true)
    (lBelow : K.lookup fBelow = some ⟨ocBelow, odBelow, .func (PySem.W.fnOf "leaves_below" "AreaTree.leaves_below" (defArgs (sTree 5)) (defBody (sTree 5)) (defScope (sTree 5)) .none kVBelow dcBelow pmBelow anBelow cdBelow ctBelow), slBelow⟩) (cBelow : PySem.W.codeIn K cdBelow "AreaTree.leaves_below" = true) (kBelow : PySem.W.keepIn K (.ref fBelow) = true)
    (aIsLeaf : PySem.W.findIn K (.ref CT) "is_leaf" = some (some (.ref fIsLeaf))) (iIsLeaf : PySem.W.isFn K (.ref fIsLeaf) = true)
    (lIsLeaf : K.lookup fIsLeaf = some ⟨ocIsLeaf, odIsLeaf, .func (PySem.W.fnOf "is_leaf" "AreaTree.is_leaf" (defArgs (sTree 6)) (defBody (sTree 6)) (defScope (sTree 6)) .none kVIsLeaf dcIsLeaf pmIsLeaf anIsLeaf cdIsLeaf ctIsLeaf), slIsLeaf⟩) (cIsLeaf : PySem.W.codeIn K cdIsLeaf "AreaTree.is_leaf" = true) (kIsLeaf : PySem.W.keepIn K (.ref fIsLeaf) = true)
    (aLevel : PySem.W.findIn K (.ref CT) "level" = some (some (.ref fLevel))) (iLevel : PySem.W.isFn K (.ref fLevel) = true)
    (lLevel : K.lookup fLevel = some ⟨ocLevel, odLevel, .func (PySem.W.fnOf "level" "AreaTree.level" (defArgs (sTree 7)) (defBody (sTree 7)) (defScope (sTree 7)) .none kVLevel dcLevel pmLevel anLevel cdLevel ctLevel), slLevel⟩) (cLevel : PySem.W.codeIn K cdLevel "AreaTree.level" = true) (kLevel : PySem.W.keepIn K (.ref fLevel) = true)
    (aCheck : PySem.W.findIn K (.ref CT) "_check" = some (some (.ref fCheck))) (iCheck : PySem.W.isFn K (.ref fCheck) = true)
    (lCheck : K.lookup fCheck = some ⟨ocCheck, odCheck, .func (PySem.W.fnOf "_check" "AreaTree._check" (defArgs (sTree 8)) (defBody (sTree 8)) (defScope (sTree 8)) .none kVCheck dcCheck pmCheck anCheck cdCheck ctCheck), slCheck⟩) (cCheck : PySem.W.codeIn K cdCheck "AreaTree._check" = true) (kCheck : PySem.W.keepIn K (.ref fCheck) = true)
    (aCell : PySem.W.nsIn K mainGlobals "_law_cell" = some (some (.ref fCell)))
    (lCell : K.lookup fCell = some ⟨ocCell, odCell, .func (PySem.W.fnOf "_law_cell" "_law_cell" (defArgs sCell) (defBody sCell) (defScope sCell) .none kVCell dcCell pmCell anCell cdCell ctCell), slCell⟩) (cCell : PySem.W.codeIn K cdCell "_law_cell" = true) (kCell : PySem.W.keepIn K (.ref fCell) = true)
    (aNumbers : PySem.W.nsIn K mainGlobals "_law_numbers" = some (some (.ref fNumbers)))
    (lNumbers : K.lookup fNumbers = some ⟨ocNumbers, odNumbers, .func (PySem.W.fnOf "_law_numbers" "_law_numbers" (defArgs sNumbers) (defBody sNumbers) (defScope sNumbers) .none kVNumbers dcNumbers pmNumbers anNumbers cdNumbers ctNumbers), slNumbers⟩) (cNumbers : PySem.W.codeIn K cdNumbers "_law_numbers" = true) (kNumbers : PySem.W.keepIn K (.ref fNumbers) = true)
    (aAnyA : PySem.W.nsIn K mainGlobals "_law_any_areas" = some (some (.ref fAnyA)))
    (lAnyA : K.lookup fAnyA = some ⟨ocAnyA, odAnyA, .func (PySem.W.fnOf "_law_any_areas" "_law_any_areas" (defArgs sAny) (defBody sAny) (defScope sAny) .none kVAnyA dcAnyA pmAnyA anAnyA cdAnyA ctAnyA), slAnyA⟩) (cAnyA : PySem.W.codeIn K cdAnyA "_law_any_areas" = true) (kAnyA : PySem.W.keepIn K (.ref fAnyA) = true)
    (aLName : PySem.W.nsIn K mainGlobals "_law_is_name" = some (some (.ref fLName)))
    (lLName : K.lookup fLName = some ⟨ocLName, odLName, .func (PySem.W.fnOf "_law_is_name" "_law_is_name" (defArgs sLawName) (defBody sLawName) (defScope sLawName) .none kVLName dcLName pmLName anLName cdLName ctLName), slLName⟩) (cLName : PySem.W.codeIn K cdLName "_law_is_name" = true) (kLName : PySem.W.keepIn K (.ref fLName) = true)
    (aRight : PySem.W.nsIn K mainGlobals "_law_tree_right" = some (some (.ref fRight)))
    (lRight : K.lookup fRight = some ⟨ocRight, odRight, .func (PySem.W.fnOf "_law_tree_right" "_law_tree_right" (defArgs sRight) (defBody sRight) (defScope sRight) .none kVRight dcRight pmRight anRight cdRight ctRight), slRight⟩) (cRight : PySem.W.codeIn K cdRight "_law_tree_right" = true) (kRight : PySem.W.keepIn K (.ref fRight) = true)
    (aCallL : PySem.W.nsIn K mainGlobals "_law_call" = some (some (.ref fCallL)))
    (lCallL : K.lookup fCallL = some ⟨ocCallL, odCallL, .func (PySem.W.fnOf "_law_call" "_law_call" (defArgs sCallL) (defBody sCallL) (defScope sCallL) .none kVCallL dcCallL pmCallL anCallL cdCallL ctCallL), slCallL⟩) (cCallL : PySem.W.codeIn K cdCallL "_law_call" = true) (kCallL : PySem.W.keepIn K (.ref fCallL) = true)
    (aLaw : PySem.W.nsIn K mainGlobals "law" = some (some (.ref fLaw)))
    (lLaw : K.lookup fLaw = some ⟨ocLaw, odLaw, .func (PySem.W.fnOf "law" "law" (defArgs sLaw) (defBody sLaw) (defScope sLaw) .none kVLaw dcLaw pmLaw anLaw cdLaw ctLaw), slLaw⟩) (cLaw : PySem.W.codeIn K cdLaw "law" = true) (kLaw : PySem.W.keepIn K (.ref fLaw) = true)
    (pg : PySem.W.plainGet K CT Str.empty = true)
    (hd : PySem.W.hasDictIn K CT = true)
    (po : PySem.W.plainOver K CT = true)
    (sa : PySem.W.findIn K (.ref CT) "__setattr__" = some (some (.builtin "object.__setattr__")))
    (mk : PySem.W.makesIn K CT = true)
    (kc : PySem.W.keepIn K (.ref CT) = true)
    (nP : PySem.W.findIn K (.ref CT) "_parents" = some none)
    (nC : PySem.W.findIn K (.ref CT) "_children" = some none)
    (nR : PySem.W.findIn K (.ref CT) "root" = some none)
    (xP : PySem.W.excIn K CP [.type "ValueError", .type "Exception", .type "BaseException", .type "object"] "ValueError.__new__" = true)
    (saU : PySem.W.findIn K (.ref CU) "__setattr__" = some (some (.builtin "object.__setattr__")))
    (tI : PySem.W.typeIn K (.ref fUInit) = some (.type "function"))
    (nNm : PySem.W.findIn K (.ref CU) "name" = some none)
    (rdB : PySem.W.readsIn K CB (.type "type") = true)
    (gaB : PySem.W.specialIn K (.ref CB) "__getattribute__" = some (some (.builtin "type.__getattribute__")))
    (fcB : PySem.W.findCls K (.ref CB) (.type "type") "__init__" = some (.val (.builtin "ValueError.__init__")))
    (bB : PySem.W.subIn K (.ref CB) (.type "BaseException") = some true)
    (dB : PySem.W.hasDictIn K CB = true)
    (tB : PySem.W.typeIn K (.ref CB) = some (.type "type"))
    (e6 : PySem.W.specialIn K (.builtin "object.__class__") "__get__" = some (some (.builtin "getset_descriptor.__get__")))
    (e7 : PySem.W.takesIn K (.builtin "object.__class__") = some true)
    (kP : PySem.W.keepIn K (.ref CP) = true)
    (bP : PySem.W.subIn K (.ref CP) (.type "BaseException") = some true)
    (tP : PySem.W.typeIn K (.ref CP) = some (.type "type"))
    (sP : PySem.W.subIn K (.ref CP) (.ref CB) = some true)
    (e1P : PySem.W.findIn K (.ref CP) "__getattribute__" = some (some (.builtin "BaseException.__getattribute__")))
    (e2P : PySem.W.findIn K (.ref CP) "__getattr__" = some none)
    (e4P : PySem.W.hasDictIn K CP = true)
    (e5P : PySem.W.findIn K (.ref CP) "__class__" = some (some (.builtin "object.__class__")))
    (e8P : PySem.W.mroIn K CP (.type "object") = some true)
    (ktP : PySem.W.kitOne K (.ref CP) (.ref CP) = some true)
    (kU : PySem.W.keepIn K (.ref CU) = true)
    (bU : PySem.W.subIn K (.ref CU) (.type "BaseException") = some true)
    (tU : PySem.W.typeIn K (.ref CU) = some (.type "type"))
    (sU : PySem.W.subIn K (.ref CU) (.ref CB) = some true)
    (e1U : PySem.W.findIn K (.ref CU) "__getattribute__" = some (some (.builtin "BaseException.__getattribute__")))
    (e2U : PySem.W.findIn K (.ref CU) "__getattr__" = some none)
    (e4U : PySem.W.hasDictIn K CU = true)
    (e5U : PySem.W.findIn K (.ref CU) "__class__" = some (some (.builtin "object.__class__")))
    (e8U : PySem.W.mroIn K CU (.type "object") = some true)
    (ktU : PySem.W.kitOne K (.ref CU) (.ref CU) = some true)
    (zrange : PySem.W.nsIn K mainGlobals "range" = some none)
    (zlen : PySem.W.nsIn K mainGlobals "len" = some none)
    (zlist : PySem.W.nsIn K mainGlobals "list" = some none)
    (zall : PySem.W.nsIn K mainGlobals "all" = some none)
    (zabs : PySem.W.nsIn K mainGlobals "abs" = some none)
    (zint : PySem.W.nsIn K mainGlobals "int" = some none)
    (zisinstance : PySem.W.nsIn K mainGlobals "isinstance" = some none)
    (zbool : PySem.W.nsIn K mainGlobals "bool" = some none)
    : ∃ fd : FuncData, (∀ (s : Shared) (v : Value), BindsTo s fd ⟨[v], []⟩ [("_law_script", v)]) ∧ ∀ base : Heap, K.In base → base.Ns mainGlobals mg → FnOk P w K mg base (L2N.CX P w) 6 fa fd ["_law_script"] (spLaw K) := by
  have e := hfa.symm.trans (PySem.W.mg_of X G aLaw)
  cases e
  have N : ∀ {x : Str}, PySem.W.nsIn K mainGlobals x = some none → mg x = none := fun h => PySem.W.mg_none_of X G h
  have T : Tp K mg CP CU CT := ⟨N zrange, N zlen, N zlist, N zall, N zabs, N zint, N zisinstance, ⟨_, PySem.W.mg_of X G gL⟩, ⟨_, PySem.W.mg_of X G gC⟩, ⟨_, PySem.W.mg_of X G gN⟩, ⟨xP, PySem.W.mg_of X G aP, kP, bP, tP⟩⟩
  have U : Tt K CT := ⟨⟨pg, hd, po, sa⟩, nP, nC, nR⟩
  have V : Tq K mg CP CU CB := ⟨N zbool, PySem.W.mg_of X G aB, PySem.W.mg_of X G aP, PySem.W.mg_of X G aU, ⟨e1P, e2P, bP, e4P, e5P, e6, e7, e8P⟩, ⟨e1U, e2U, bU, e4U, e5U, e6, e7, e8U⟩, ⟨e1U, e2U, bU, e4U⟩, nNm, ktP, ktU, PySem.W.exm_ref bB dB tB sP, PySem.W.exm_ref bB dB tB sU⟩
  have OU : OexC K CU := ⟨⟨nm, q, NA, bs, _, sn, sub, ab, col, dd, m0, m1, m2, m3, m5, xU, rfl⟩, saU, bU, tU, kU⟩
  have B0 : BasC K mg "CellguardError" CB := ⟨PySem.W.mg_of X G aB, ⟨rdB, gaB⟩, fcB⟩
  have FIsName := fun_mk (st := sIsName) lIsName cIsName kIsName
  have bIsName := FIsName.binds (ps := ["text"]) fun _ _ _ _ _ _ us hl => match us, hl with | [_], _ => rfl
  have FFits := fun_mk (st := sFits) lFits cFits kFits
  have bFits := FFits.binds (ps := ["parents", "name", "parent"]) fun _ _ _ _ _ _ us hl => match us, hl with | [_, _, _], _ => rfl
  have FChecked := fun_mk (st := sChecked) lChecked cChecked kChecked
  have bChecked := FChecked.binds (ps := ["areas"]) fun _ _ _ _ _ _ us hl => match us, hl with | [_], _ => rfl
  have FUInit := fun_mk (st := sUInit) lUInit cUInit kUInit
  have bUInit := FUInit.binds (ps := ["self", "name"]) fun _ _ _ _ _ _ us hl => match us, hl with | [_, _], _ => rfl
  have FTInit := fun_mk (st := (sTree 0)) lTInit cTInit kTInit
  have bTInit := FTInit.binds (ps := ["self", "areas"]) fun _ _ _ _ _ _ us hl => match us, hl with | [_, _], _ => rfl
  have FNames := fun_mk (st := (sTree 1)) lNames cNames kNames
  have bNames := FNames.binds (ps := ["self"]) fun _ _ _ _ _ _ us hl => match us, hl with | [_], _ => rfl
  have FParent := fun_mk (st := (sTree 2)) lParent cParent kParent
  have bParent := FParent.binds (ps := ["self", "name"]) fun _ _ _ _ _ _ us hl => match us, hl with | [_, _], _ => rfl
  have FChildren := fun_mk (st := (sTree 3)) lChildren cChildren kChildren
  have bChildren := FChildren.binds (ps := ["self", "name"]) fun _ _ _ _ _ _ us hl => match us, hl with | [_, _], _ => rfl
  have FLeaves := fun_mk (st := (sTree 4)) lLeaves cLeaves kLeaves
  have bLeaves := FLeaves.binds (ps := ["self"]) fun _ _ _ _ _ _ us hl => match us, hl with | [_], _ => rfl
  have FBelow := fun_mk (st := (sTree 5)) lBelow cBelow kBelow
  have bBelow := FBelow.binds (ps := ["self", "name"]) fun _ _ _ _ _ _ us hl => match us, hl with | [_, _], _ => rfl
  have FIsLeaf := fun_mk (st := (sTree 6)) lIsLeaf cIsLeaf kIsLeaf
  have bIsLeaf := FIsLeaf.binds (ps := ["self", "name"]) fun _ _ _ _ _ _ us hl => match us, hl with | [_, _], _ => rfl
  have FLevel := fun_mk (st := (sTree 7)) lLevel cLevel kLevel
  have bLevel := FLevel.binds (ps := ["self", "name"]) fun _ _ _ _ _ _ us hl => match us, hl with | [_, _], _ => rfl
  have FCheck := fun_mk (st := (sTree 8)) lCheck cCheck kCheck
  have bCheck := FCheck.binds (ps := ["self", "name"]) fun _ _ _ _ _ _ us hl => match us, hl with | [_, _], _ => rfl
  have FCell := fun_mk (st := sCell) lCell cCell kCell
  have bCell := FCell.binds (ps := ["_law_script", "_law_k"]) fun _ _ _ _ _ _ us hl => match us, hl with | [_, _], _ => rfl
  have FNumbers := fun_mk (st := sNumbers) lNumbers cNumbers kNumbers
  have bNumbers := FNumbers.binds (ps := ["_law_script", "_law_first", "_law_most"]) fun _ _ _ _ _ _ us hl => match us, hl with | [_, _, _], _ => rfl
  have FAnyA := fun_mk (st := sAny) lAnyA cAnyA kAnyA
  have bAnyA := FAnyA.binds (ps := ["_law_numbers_here"]) fun _ _ _ _ _ _ us hl => match us, hl with | [_], _ => rfl
  have FLName := fun_mk (st := sLawName) lLName cLName kLName
  have bLName := FLName.binds (ps := ["_law_text"]) fun _ _ _ _ _ _ us hl => match us, hl with | [_], _ => rfl
  have FRight := fun_mk (st := sRight) lRight cRight kRight
  have bRight := FRight.binds (ps := ["_law_areas"]) fun _ _ _ _ _ _ us hl => match us, hl with | [_], _ => rfl
  have FCallL := fun_mk (st := sCallL) lCallL cCallL kCallL
  have bCallL := FCallL.binds (ps := ["_law_tree", "_law_way", "_law_name"]) fun _ _ _ _ _ _ us hl => match us, hl with | [_, _, _], _ => rfl
  have FLaw := fun_mk (st := sLaw) lLaw cLaw kLaw
  refine ⟨PySem.W.fnOf "law" "law" (defArgs sLaw) (defBody sLaw) (defScope sLaw) .none kVLaw dcLaw pmLaw anLaw cdLaw ctLaw, fun s v => .of_eq rfl, fun base _ _ => ?_⟩
  have TU : FldC P w K mg base 1 "UnknownName" "name" CU := ⟨OU, PySem.W.mg_of X G aU, ⟨_, _, aUInit, tI, bUInit, ok_uinit FUInit OU B0 nNm⟩⟩
  have tIs : Kn P w K mg base 1 "is_name" ["text"] spIsName := ⟨_, _, ok_isName FIsName T, PySem.W.mg_of X G aIsName, kIsName, bIsName⟩
  have tFits : Kn P w K mg base 2 "area_fits" ["parents", "name", "parent"] spFits := ⟨_, _, ok_fits FFits tIs, PySem.W.mg_of X G aFits, kFits, bFits⟩
  have tCh : Kn P w K mg base 3 "checked_parents" ["areas"] (spChecked CP) := ⟨_, _, ok_checked FChecked T tFits, PySem.W.mg_of X G aChecked, kChecked, bChecked⟩
  have tC : KnM P w K mg base 3 CT "_check" ["self", "name"] (spCheck CT CU) := ⟨⟨_, _, ok_check FCheck U TU, ⟨aCheck, iCheck, kCheck⟩, bCheck⟩, U.c⟩
  have tL : KnM P w K mg base 1 CT "leaves" ["self"] (spLeaves CT) := ⟨⟨_, _, ok_leaves FLeaves U, ⟨aLeaves, iLeaves, kLeaves⟩, bLeaves⟩, U.c⟩
  have tN : KnM P w K mg base 1 CT "names" ["self"] (spNames CT) := ⟨⟨_, _, ok_names FNames U (N zlist), ⟨aNames, iNames, kNames⟩, bNames⟩, U.c⟩
  have tNH : KnMH P w K mg base 1 CT "names" ["self"] (spNames CT) := ⟨⟨_, _, ok_namesH FNames U (N zlist), ⟨aNames, iNames, kNames⟩, bNames⟩, U.c⟩
  have t0 : KnM P w K mg base 4 CT "parent" ["self", "name"] (spOf CT CU fun y n => im (rO rS) (parOf y n)) := ⟨⟨_, _, ok_parent FParent U tC, ⟨aParent, iParent, kParent⟩, bParent⟩, U.c⟩
  have t1 : KnM P w K mg base 4 CT "children" ["self", "name"] (spOf CT CU fun y n => ow rS (kids y n)) := ⟨⟨_, _, ok_children FChildren U (N zlist) tC, ⟨aChildren, iChildren, kChildren⟩, bChildren⟩, U.c⟩
  have t2 : KnM P w K mg base 4 CT "leaves_below" ["self", "name"] (spOf CT CU fun y n => ow rS ((leavesOf y).filter fun x => decide (x ∈ belowL y n))) := ⟨⟨_, _, ok_below FBelow U tC tL, ⟨aBelow, iBelow, kBelow⟩, bBelow⟩, U.c⟩
  have t3 : KnM P w K mg base 4 CT "is_leaf" ["self", "name"] (spOf CT CU fun y n => im rB (kids y n).isEmpty) := ⟨⟨_, _, ok_isLeaf FIsLeaf U tC, ⟨aIsLeaf, iIsLeaf, kIsLeaf⟩, bIsLeaf⟩, U.c⟩
  have t4 : KnM P w K mg base 4 CT "level" ["self", "name"] (spLevel CT CU) := ⟨⟨_, _, ok_level FLevel U tC, ⟨aLevel, iLevel, kLevel⟩, bLevel⟩, U.c⟩
  have tLN : Kn P w K mg base 1 "_law_is_name" ["_law_text"] spLN := ⟨_, _, ok_ln FLName T, PySem.W.mg_of X G aLName, kLName, bLName⟩
  have tLNH : KnH P w K mg base 1 "_law_is_name" ["_law_text"] spLN := ⟨_, _, ok_lnH FLName T, PySem.W.mg_of X G aLName, kLName, bLName⟩
  exact ok_law FLaw T U V ⟨_, _, ok_cell FCell T, PySem.W.mg_of X G aCell, kCell, bCell⟩ ⟨_, _, ok_num FNumbers T, PySem.W.mg_of X G aNumbers, kNumbers, bNumbers⟩ ⟨_, _, ok_any FAnyA T, PySem.W.mg_of X G aAnyA, kAnyA, bAnyA⟩ tIs tLN
    ⟨_, _, ok_right FRight T tLN, PySem.W.mg_of X G aRight, kRight, bRight⟩ ⟨_, _, ok_treeInit FTInit U tCh, ⟨mk, aTInit, iTInit, kc⟩, PySem.W.mg_of X G aT, bTInit⟩ tN tL t0 t1 t2 t3 t4
    ⟨_, _, ok_cl FCallL t0 t1 t2 t3 t4, PySem.W.mg_of X G aCallL, kCallL, bCallL⟩ ⟨_, _, ok_rightH FRight T tLNH, PySem.W.mg_of X G aRight, kRight, bRight⟩ tNH
theorem walk {l : PySem.W.OpenLaw} {q : Program} {loose : List Str} {XP : (Str → Option Value) → Heap → Prop} {YP : World → Heap → Prop} {d : DefRec} {K : Params → PySem.W.Frag} (hn : l.most = some 63) (hdf : d.params.defaults = [])
    (hY : ∀ (w : World) (h : Heap), YP w h → (K w.params).In h)
    (F : ∀ (w : World) (mg : Str → Option Value) (fa : Addr) (h : Heap), (K w.params).In h → h.Ns mainGlobals mg → mg d.name = some (.ref fa) →
      ∃ fd : FuncData, (∀ (s : Shared) (u : Value), BindsTo s fd ⟨[u], []⟩ [("_law_script", u)]) ∧ ∀ base : Heap, (K w.params).In base → base.Ns mainGlobals mg → FnOk l.prog w (K w.params) mg base (L2N.CX l.prog w) 6 fa fd ["_law_script"] (spLaw (K w.params))) :
    PySem.W.WalkO q loose XP YP l.row.toRowW d [] (fun f vs => PySem.call f vs) :=
  L2.walk_of (n := 63) (k := 6) (x := "_law_script") (CX := fun w => L2N.CX l.prog w) (sp := fun w => spLaw (K w.params)) hn (by decide) hdf ⟨rfl, by decide, by decide⟩ hY F
    (fun _ H a ns hl _ hS => ⟨ns, H, Ex.refl H, Ims.cons ⟨a, rfl, hS⟩ Ims.nil, hl, fun s hs v F' H' l' _ p _ => by cases hs; exact p.2, fun C hC => nomatch hC⟩)
    fun _ _ _ _ _ ⟨_, _, _, _, _, _, _, _, _, _, _, _, z⟩ => z
end K1
open PySem PySem.W PyProof.Rows
set_option maxRecDepth 100000 in
set_option maxHeartbeats 0 in
theorem PySem.Challenge.cw_cellguard_k01_trees_of_areas_holds : PySem.Challenge.rw_cellguard_k01_trees_of_areas.Holds := by
  w_on; o_law; k_head; (case hw => w_witness2)
  k_fill
  refine K1.walk (l := PySem.Challenge.rw_cellguard_k01_trees_of_areas) rfl rfl (fun w h Y => PySem.W.kIn_of Y) ?F
  case F =>
    intro w mg fa h KX G hmg
    refine' K1.all_mk KX G hmg ?aB ?aP ?aU ?aT ?gL ?gC ?gN ?xU ?aIsName ?lIsName ?cIsName ?kIsName ?aFits ?lFits ?cFits ?kFits ?aChecked ?lChecked ?cChecked ?kChecked ?aUInit ?iUInit ?lUInit ?cUInit ?kUInit ?aTInit ?iTInit ?lTInit ?cTInit ?kTInit ?aNames ?iNames ?lNames ?cNames ?kNames ?aParent ?iParent ?lParent ?cParent ?kParent ?aChildren ?iChildren ?lChildren ?cChildren ?kChildren ?aLeaves ?iLeaves ?lLeaves ?cLeaves ?kLeaves ?aBelow ?iBelow ?lBelow ?cBelow ?kBelow ?aIsLeaf ?iIsLeaf ?lIsLeaf ?cIsLeaf ?kIsLeaf ?aLevel ?iLevel ?lLevel ?cLevel ?kLevel ?aCheck ?iCheck ?lCheck ?cCheck ?kCheck ?aCell ?lCell ?cCell ?kCell ?aNumbers ?lNumbers ?cNumbers ?kNumbers ?aAnyA ?lAnyA ?cAnyA ?kAnyA ?aLName ?lLName ?cLName ?kLName ?aRight ?lRight ?cRight ?kRight ?aCallL ?lCallL ?cCallL ?kCallL ?aLaw ?lLaw ?cLaw ?kLaw ?pg ?hd ?po ?sa ?mk ?kc ?nP ?nC ?nR ?xP ?saU ?tI ?nNm ?rdB ?gaB ?fcB ?bB ?dB ?tB ?e6 ?e7 ?kP ?bP ?tP ?sP ?e1P ?e2P ?e4P ?e5P ?e8P ?ktP ?kU ?bU ?tU ?sU ?e1U ?e2U ?e4U ?e5U ?e8U ?ktU ?zrange ?zlen ?zlist ?zall ?zabs ?zint ?zisinstance ?zbool
    (case aB => k_is)
    (case aP => k_is)
    (case aU => k_is)
    (case aT => k_is)
    (case gL => k_is)
    (case gC => k_is)
    (case gN => k_is)
    (case xU => k_is)
    (case aIsName => k_is)
    (case lIsName => k_is)
    (case cIsName => k_is)
    (case kIsName => k_is)
    (case aFits => k_is)
    (case lFits => k_is)
    (case cFits => k_is)
    (case kFits => k_is)
    (case aChecked => k_is)
    (case lChecked => k_is)
    (case cChecked => k_is)
    (case kChecked => k_is)
    (case aUInit => k_is)
    (case iUInit => k_is)
    (case lUInit => k_is)
    (case cUInit => k_is)
    (case kUInit => k_is)
    (case aTInit => k_is)
    (case iTInit => k_is)
    (case lTInit => k_is)
    (case cTInit => k_is)
    (case kTInit => k_is)
    (case aNames => k_is)
    (case iNames => k_is)
    (case lNames => k_is)
    (case cNames => k_is)
    (case kNames => k_is)
    (case aParent => k_is)
    (case iParent => k_is)
    (case lParent => k_is)
    (case cParent => k_is)
    (case kParent => k_is)
    (case aChildren => k_is)
    (case iChildren => k_is)
    (case lChildren => k_is)
    (case cChildren => k_is)
    (case kChildren => k_is)
    (case aLeaves => k_is)
    (case iLeaves => k_is)
    (case lLeaves => k_is)
    (case cLeaves => k_is)
    (case kLeaves => k_is)
    (case aBelow => k_is)
    (case iBelow => k_is)
    (case lBelow => k_is)
    (case cBelow => k_is)
    (case kBelow => k_is)
    (case aIsLeaf => k_is)
    (case iIsLeaf => k_is)
    (case lIsLeaf => k_is)
    (case cIsLeaf => k_is)
    (case kIsLeaf => k_is)
    (case aLevel => k_is)
    (case iLevel => k_is)
    (case lLevel => k_is)
    (case cLevel => k_is)
    (case kLevel => k_is)
    (case aCheck => k_is)
    (case iCheck => k_is)
    (case lCheck => k_is)
    (case cCheck => k_is)
    (case kCheck => k_is)
    (case aCell => k_is)
    (case lCell => k_is)
    (case cCell => k_is)
    (case kCell => k_is)
    (case aNumbers => k_is)
    (case lNumbers => k_is)
    (case cNumbers => k_is)
    (case kNumbers => k_is)
    (case aAnyA => k_is)
    (case lAnyA => k_is)
    (case cAnyA => k_is)
    (case kAnyA => k_is)
    (case aLName => k_is)
    (case lLName => k_is)
    (case cLName => k_is)
    (case kLName => k_is)
    (case aRight => k_is)
    (case lRight => k_is)
    (case cRight => k_is)
    (case kRight => k_is)
    (case aCallL => k_is)
    (case lCallL => k_is)
    (case cCallL => k_is)
    (case kCallL => k_is)
    (case aLaw => k_is)
    (case lLaw => k_is)
    (case cLaw => k_is)
    (case kLaw => k_is)
    (case pg => k_is)
    (case hd => k_is)
    (case po => k_is)
    (case sa => k_is)
    (case mk => k_is)
    (case kc => k_is)
    (case nP => k_is)
    (case nC => k_is)
    (case nR => k_is)
    (case xP => k_exc)
    (case saU => k_is)
    (case tI => k_is)
    (case nNm => k_is)
    (case rdB => k_is)
    (case gaB => k_is)
    (case fcB => k_is)
    (case bB => k_is)
    (case dB => k_is)
    (case tB => k_is)
    (case e6 => k_is)
    (case e7 => k_is)
    (case kP => k_is)
    (case bP => k_is)
    (case tP => k_is)
    (case sP => first | rfl | k_is)
    (case e1P => k_is)
    (case e2P => k_is)
    (case e4P => k_is)
    (case e5P => k_is)
    (case e8P => k_is)
    (case ktP => first | k_is | rfl)
    (case kU => k_is)
    (case bU => k_is)
    (case tU => k_is)
    (case sU => first | rfl | k_is)
    (case e1U => k_is)
    (case e2U => k_is)
    (case e4U => k_is)
    (case e5U => k_is)
    (case e8U => k_is)
    (case ktU => first | k_is | rfl)
    (case zrange => k_is)
    (case zlen => k_is)
    (case zlist => k_is)
    (case zall => k_is)
    (case zabs => k_is)
    (case zint => k_is)
    (case zisinstance => k_is)
    (case zbool => k_is)
