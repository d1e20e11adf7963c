import PyProof.Rows.All
import Wide.All
import OpenK.AllK
import Wide.FinOn
import HandS.ForMost
import HandS.ForExc
import HandS.Evl
import HandS.FStr
import HandS.RaiseMore
import HandS.ExcIs
import HandS.Style
import HandS.Walk
import HandS.DictComp
import HandS.Small
import PySem.Challenge.RW_cellguard_k06_bounds_of_sets
set_option Elab.async false
set_option linter.all false
set_option maxRecDepth 100000
set_option maxHeartbeats 4000000
/-! A logic of slots: what each name of a frame holds, as data (im) or as a list of its own (ow). -/
namespace Lg
open PySem L2 Evl

/-- how data of a type is told at an address -/
structure Rl (α : Type) where
  r : Hp → V → α → Prop
  m : ∀ {H H' : Hp} {v : V} {a : α}, Ex H H' → r H v a → r H' v a

/-- item by item -/
inductive All2 {α : Type} (p : V → α → Prop) : List V → List α → Prop
  | nil : All2 p [] []
  | cons {v : V} {a : α} {vs : List V} {as : List α} : p v a → All2 p vs as → All2 p (v :: vs) (a :: as)
theorem All2.imp {α : Type} {p q : V → α → Prop} (h : ∀ v a, p v a → q v a) : ∀ {vs as}, All2 p vs as → All2 q vs as
  | _, _, .nil => .nil
  | _, _, .cons x t => .cons (h _ _ x) (t.imp h)
theorem All2.len {α : Type} {p : V → α → Prop} : ∀ {vs as}, All2 p vs as → vs.length = as.length
  | _, _, .nil => rfl
  | _, _, .cons _ t => by simp [t.len]
theorem All2.app {α : Type} {p : V → α → Prop} : ∀ {vs as ws bs}, All2 p vs as → All2 p ws bs → All2 p (vs ++ ws) (as ++ bs)
  | _, _, _, _, .nil, t => t
  | _, _, _, _, .cons x s, t => .cons x (s.app t)
theorem All2.get {α : Type} {p : V → α → Prop} : ∀ {vs as} {i : Nat} {a : α}, All2 p vs as → as[i]? = some a → ∃ v, vs[i]? = some v ∧ p v a
  | _, _, _, _, .nil, h => by simp at h
  | _, _, 0, a, .cons x _, h => by simp at h; subst h; exact ⟨_, rfl, x⟩
  | _, _, i + 1, a, .cons _ t, h => by
    obtain ⟨v, h1, h2⟩ := t.get (i := i) (a := a) (by simpa using h)
    exact ⟨v, by simpa using h1, h2⟩
theorem All2.getV {α : Type} {p : V → α → Prop} : ∀ {vs as} {i : Nat} {v : V}, All2 p vs as → vs[i]? = some v → ∃ a, as[i]? = some a ∧ p v a
  | _, _, _, _, .nil, h => by simp at h
  | _, _, 0, a, .cons x _, h => by simp at h; subst h; exact ⟨_, rfl, x⟩
  | _, _, i + 1, a, .cons _ t, h => by
    obtain ⟨v, h1, h2⟩ := t.getV (i := i) (v := a) (by simpa using h)
    exact ⟨v, by simpa using h1, h2⟩
theorem All2.set {α : Type} {p : V → α → Prop} {v : V} {a : α} (x : p v a) : ∀ {vs as} (i : Nat), All2 p vs as → All2 p (vs.set i v) (as.set i a)
  | _, _, _, .nil => .nil
  | _, _, 0, .cons _ t => .cons x t
  | _, _, i + 1, .cons y t => .cons y (All2.set x i t)
theorem All2.rep {α : Type} {p : V → α → Prop} {vs : List V} {as : List α} (h : All2 p vs as) : ∀ k : Nat, All2 p (List.replicate k vs).flatten (List.replicate k as).flatten
  | 0 => .nil
  | k + 1 => by
    rw [List.replicate_succ, List.replicate_succ, List.flatten_cons, List.flatten_cons]
    exact h.app (All2.rep h k)
theorem All2.drop {α : Type} {p : V → α → Prop} : ∀ {vs as} (n : Nat), All2 p vs as → All2 p (vs.drop n) (as.drop n)
  | _, _, 0, h => h
  | _, _, _ + 1, .nil => .nil
  | _, _, n + 1, .cons _ t => All2.drop n t
theorem All2.take {α : Type} {p : V → α → Prop} : ∀ {vs as} (n : Nat), All2 p vs as → All2 p (vs.take n) (as.take n)
  | _, _, 0, _ => .nil
  | _, _, _ + 1, .nil => .nil
  | _, _, n + 1, .cons x t => .cons x (All2.take n t)

/-! ### data -/
def rI : Rl Int := ⟨fun _ v i => v = .int i, fun _ h => h⟩
def rB : Rl Bool := ⟨fun _ v b => v = .bl b, fun _ h => h⟩
def rS : Rl Str := ⟨fun _ v x => v = .str x, fun _ h => h⟩
def rU : Rl Unit := ⟨fun _ v _ => v = .non, fun _ h => h⟩
/-- None or data -/
def rO {α : Type} (R : Rl α) : Rl (Option α) := ⟨fun H v o => match o with | none => v = .non | some a => R.r H v a, fun {H H' v a} e h => by
  cases a with
  | none => exact h
  | some a => exact R.m e h⟩
def rL {α : Type} (R : Rl α) : Rl (List α) :=
  ⟨fun H v as => ∃ p xs, v = .ref p ∧ H p = some (.lst xs) ∧ All2 (R.r H) xs as, fun {H H' v as} e ⟨p, xs, h1, h2, h3⟩ => ⟨p, xs, h1, e p _ h2, h3.imp fun _ _ => R.m e⟩⟩
/-- a tuple of items of one type -/
def rT {α : Type} (R : Rl α) : Rl (List α) :=
  ⟨fun H v as => ∃ p xs, v = .ref p ∧ H p = some (.tup xs) ∧ All2 (R.r H) xs as, fun {H H' v as} e ⟨p, xs, h1, h2, h3⟩ => ⟨p, xs, h1, e p _ h2, h3.imp fun _ _ => R.m e⟩⟩
/-- a list or a tuple: which -/
def rQ {α : Type} (R : Rl α) : Rl (Bool × List α) :=
  ⟨fun H v as => (as.1 = true → (rT R).r H v as.2) ∧ (as.1 = false → (rL R).r H v as.2), fun {H H' v as} e ⟨h1, h2⟩ => ⟨fun b => (rT R).m e (h1 b), fun b => (rL R).m e (h2 b)⟩⟩
/-- a pair, a triple -/
def rP {α β : Type} (R : Rl α) (S : Rl β) : Rl (α × β) :=
  ⟨fun H v c => ∃ p x y, v = .ref p ∧ H p = some (.tup [x, y]) ∧ R.r H x c.1 ∧ S.r H y c.2, fun {H H' v c} e ⟨p, x, y, h1, h2, h3, h4⟩ => ⟨p, x, y, h1, e p _ h2, R.m e h3, S.m e h4⟩⟩
def rP3 {α β γ : Type} (R : Rl α) (S : Rl β) (T : Rl γ) : Rl (α × β × γ) :=
  ⟨fun H v c => ∃ p x y z, v = .ref p ∧ H p = some (.tup [x, y, z]) ∧ R.r H x c.1 ∧ S.r H y c.2.1 ∧ T.r H z c.2.2, fun {H H' v c} e ⟨p, x, y, z, h1, h2, h3, h4, h5⟩ => ⟨p, x, y, z, h1, e p _ h2, R.m e h3, S.m e h4, T.m e h5⟩⟩
/-- the script -/
def rSc (K : PySem.W.Frag) : Rl (List Int) :=
  ⟨fun H v ns => ∃ p, v = .ref p ∧ SqL K H p (ns.map V.int), fun {H H' v as} e ⟨p, h1, h2⟩ => ⟨p, h1, ex_l e h2⟩⟩

/-! ### slots -/
structure Sl where
  P : Hp → Hp → V → List Addr → Prop
  m : ∀ {F F' H H' : Hp} {v : V} {l : List Addr}, Ex F F' → (∀ a ∈ l, H' a = H a) → P F H v l → P F' H' v l
  t : ∀ {F H : Hp} {v : V} {l : List Addr}, P F H v l → ∀ a ∈ l, H a ≠ none
  d : ∀ {F H : Hp} {v : V} {l : List Addr}, P F H v l → l.Nodup
/-- data, never changed -/
def im {α : Type} (R : Rl α) (a : α) : Sl where
  P := fun F _ v l => l = [] ∧ R.r F v a
  m := fun e _ h => ⟨h.1, R.m e h.2⟩
  t := fun h a ha => by rw [h.1] at ha; cases ha
  d := fun h => by rw [h.1]; exact List.nodup_nil
/-- a list of one's own -/
def ow {α : Type} (R : Rl α) (as : List α) : Sl where
  P := fun F H v l => ∃ p xs, v = .ref p ∧ l = [p] ∧ H p = some (.lst xs) ∧ All2 (R.r F) xs as
  m := fun e k ⟨p, xs, h1, h2, h3, h4⟩ => ⟨p, xs, h1, h2, by rw [k p (by rw [h2]; exact List.mem_singleton.mpr rfl)]; exact h3, h4.imp fun _ _ => R.m e⟩
  t := fun ⟨p, xs, h1, h2, h3, h4⟩ a ha => by
    rw [h2] at ha
    rw [List.mem_singleton.mp ha, h3]
    exact fun z => nomatch z
  d := fun ⟨p, xs, h1, h2, h3, h4⟩ => by rw [h2]; simp
/-- one value -/
def vx (w : V) : Sl where
  P := fun _ _ v l => l = [] ∧ v = w
  m := fun _ _ h => h
  t := fun h a ha => by rw [h.1] at ha; cases ha
  d := fun h => by rw [h.1]; exact List.nodup_nil

abbrev Ctx := List (Option Sl)
def SgL (F H : Hp) : Ctx → L2.St → List Addr → Prop
  | [], [], l => l = []
  | none :: Γ, _ :: σ, l => SgL F H Γ σ l
  | some s :: Γ, o :: σ, l => ∃ v l1 l2, o = some v ∧ l = l1 ++ l2 ∧ s.P F H v l1 ∧ SgL F H Γ σ l2
  | _, _, _ => False
structure Bs where
  F : Hp
  B : Hp
structure Gd (b : Bs) (F H : Hp) (l : List Addr) : Prop where
  ef : Ex b.F F
  eb : Ex b.B H
  e : Ex F H
  k : ∀ a, b.F a = none → b.B a ≠ none → F a = none
  nd : l.Nodup
  of : ∀ a ∈ l, F a = none
  ob : ∀ a ∈ l, b.B a = none
structure Gw (F H F' H' : Hp) : Prop where
  f : Ex F F'
  h : Ex H H'
  e : Ex F' H'
  k : ∀ a, F a = none → H a ≠ none → F' a = none
theorem ex_none {H H' : Hp} {a : Addr} (e : Ex H H') (h : H' a = none) : H a = none := fresh_back e h
theorem ex_some {H H' : Hp} {a : Addr} (e : Ex H H') (h : H a ≠ none) : H' a ≠ none := fun z => h (fresh_back e z)
theorem ex_eq {H H' : Hp} {a : Addr} (e : Ex H H') (h : H a ≠ none) : H' a = H a := by
  cases q : H a with
  | none => exact absurd q h
  | some o => exact e a o q
theorem Gw.refl {F H : Hp} (e : Ex F H) : Gw F H F H := ⟨Ex.refl F, Ex.refl H, e, fun _ h _ => h⟩
theorem Gw.trans {F H F1 H1 F2 H2 : Hp} (x : Gw F H F1 H1) (y : Gw F1 H1 F2 H2) : Gw F H F2 H2 :=
  ⟨x.f.trans y.f, x.h.trans y.h, y.e, fun a h1 h2 => y.k a (x.k a h1 h2) (ex_some x.h h2)⟩
theorem Gd.grow {b : Bs} {F H F' H' : Hp} {l : List Addr} (g : Gd b F H l) (t : ∀ a ∈ l, H a ≠ none) (w : Gw F H F' H') : Gd b F' H' l :=
  ⟨g.ef.trans w.f, g.eb.trans w.h, w.e, fun a h1 h2 => w.k a (g.k a h1 h2) (ex_some g.eb h2), g.nd, fun a ha => w.k a (g.of a ha) (t a ha), g.ob⟩
/-- a new object, told as data -/
theorem Gw.new {F H : Hp} {p : Addr} {o : HO} (e : Ex F H) (hp : H p = none) : Gw F H (upd F p o) (upd H p o) :=
  ⟨Ex.new (ex_none e hp), Ex.new hp, fun a u h => by
    by_cases q : a = p
    · subst q; rw [upd_same] at h ⊢; exact h
    · rw [upd_ne q] at h ⊢; exact e a u h, fun a h1 h2 => by
    rw [upd_ne (fun q => h2 (by rw [q]; exact hp))]; exact h1⟩
/-- a new object, one's own -/
theorem Gw.own {F H : Hp} {p : Addr} {o : HO} (e : Ex F H) (hp : H p = none) : Gw F H F (upd H p o) :=
  ⟨Ex.refl F, Ex.new hp, e.trans (Ex.new hp), fun _ h _ => h⟩

theorem SgL.t {F H : Hp} : ∀ {Γ : Ctx} {σ : L2.St} {l : List Addr}, SgL F H Γ σ l → ∀ a ∈ l, H a ≠ none
  | [], [], l, h, a, ha => by
    have h : l = [] := h
    rw [h] at ha; cases ha
  | [], _ :: _, _, h, _, _ => h.elim
  | _ :: _, [], _, h, _, _ => by cases ‹Option Sl› <;> exact h.elim
  | none :: Γ, _ :: σ, l, h, a, ha => SgL.t (Γ := Γ) (σ := σ) h a ha
  | some s :: Γ, o :: σ, l, h, a, ha => by
    obtain ⟨v, l1, l2, rfl, rfl, hs, hr⟩ := h
    rcases List.mem_append.mp ha with q | q
    · exact s.t hs a q
    · exact SgL.t hr a q
theorem SgL.m {F F' H H' : Hp} (e : Ex F F') : ∀ {Γ : Ctx} {σ : L2.St} {l : List Addr}, (∀ a ∈ l, H' a = H a) → SgL F H Γ σ l → SgL F' H' Γ σ l
  | [], [], _, _, h => h
  | [], _ :: _, _, _, h => h.elim
  | _ :: _, [], _, _, h => by cases ‹Option Sl› <;> exact h.elim
  | none :: Γ, _ :: σ, l, k, h => SgL.m (Γ := Γ) (σ := σ) e k h
  | some s :: Γ, o :: σ, l, k, h => by
    obtain ⟨v, l1, l2, rfl, rfl, hs, hr⟩ := h
    exact ⟨v, l1, l2, rfl, rfl, s.m e (fun a ha => k a (List.mem_append_left _ ha)) hs, SgL.m e (fun a ha => k a (List.mem_append_right _ ha)) hr⟩
theorem SgL.grow {F H F' H' : Hp} {Γ : Ctx} {σ : L2.St} {l : List Addr} (w : Gw F H F' H') (h : SgL F H Γ σ l) : SgL F' H' Γ σ l :=
  SgL.m w.f (fun a ha => ex_eq w.h (SgL.t h a ha)) h
/-- what the i-th slot holds -/
theorem SgL.get {F H : Hp} {s : Sl} : ∀ {Γ : Ctx} {σ : L2.St} {l : List Addr} {i : Nat}, SgL F H Γ σ l → Γ[i]? = some (some s) → ∃ v l1, σ[i]? = some (some v) ∧ s.P F H v l1 ∧ ∀ a ∈ l1, a ∈ l
  | [], _, _, _, _, h => by simp at h
  | _ :: _, [], _, _, h, _ => by cases ‹Option Sl› <;> exact h.elim
  | none :: Γ, _ :: σ, l, 0, _, h => by simp at h
  | none :: Γ, _ :: σ, l, i + 1, g, h => by
    have h : Γ[i]? = some (some s) := by simpa using h
    obtain ⟨v, l1, h1, h2, h3⟩ := SgL.get (Γ := Γ) (σ := σ) (l := l) (i := i) g h
    exact ⟨v, l1, by simpa using h1, h2, h3⟩
  | some s' :: Γ, o :: σ, l, 0, g, h => by
    obtain ⟨v, l1, l2, rfl, rfl, hs, _⟩ := g
    have e : s' = s := by simpa using h
    subst e
    exact ⟨v, l1, rfl, hs, fun a ha => List.mem_append_left _ ha⟩
  | some s' :: Γ, o :: σ, l, i + 1, g, h => by
    obtain ⟨v, l1, l2, rfl, rfl, _, hr⟩ := g
    have h : Γ[i]? = some (some s) := by simpa using h
    obtain ⟨v, l1', h1, h2, h3⟩ := SgL.get hr h
    exact ⟨v, l1', by simpa using h1, h2, fun a ha => List.mem_append_right _ (h3 a ha)⟩
/-- a slot is stored -/
theorem SgL.put {F H : Hp} {o' : Option Sl} {w : Option V} {l' : List Addr} (hs : match o' with | none => True | some s => ∃ v, w = some v ∧ s.P F H v l') (hd' : l'.Nodup) : ∀ {Γ : Ctx} {σ : L2.St} {l : List Addr} (i : Nat), SgL F H Γ σ l → l.Nodup → (∀ a ∈ l', a ∉ l) →
    ∃ l2, SgL F H (Γ.set i o') (σ.set i w) l2 ∧ l2.Nodup ∧ ∀ a ∈ l2, a ∈ l ∨ a ∈ l'
  | [], [], l, i, g, nd, _ => ⟨l, by simpa using g, nd, fun a ha => .inl ha⟩
  | [], _ :: _, _, _, g, _, _ => g.elim
  | _ :: _, [], _, _, g, _, _ => by cases ‹Option Sl› <;> exact g.elim
  | none :: Γ, o :: σ, l, 0, g, nd, dj => by
    cases o' with
    | none => exact ⟨l, g, nd, fun a ha => .inl ha⟩
    | some s =>
      obtain ⟨v, rfl, hs⟩ := hs
      exact ⟨l' ++ l, ⟨v, l', l, rfl, rfl, hs, g⟩, List.nodup_append.mpr ⟨hd', nd, fun a ha b hb e => dj a ha (e ▸ hb)⟩, fun a ha => (List.mem_append.mp ha).symm⟩
  | none :: Γ, o :: σ, l, i + 1, g, nd, dj => by
    obtain ⟨l2, h1, h2, h3⟩ := SgL.put hs hd' (Γ := Γ) (σ := σ) (l := l) i g nd dj
    exact ⟨l2, h1, h2, h3⟩
  | some s' :: Γ, o :: σ, l, 0, g, nd, dj => by
    obtain ⟨v, l1, l2, rfl, rfl, _, hr⟩ := g
    have nd2 := (List.nodup_append.mp nd).2.1
    cases o' with
    | none => exact ⟨l2, hr, nd2, fun a ha => .inl (List.mem_append_right _ ha)⟩
    | some s =>
      obtain ⟨v', rfl, hs⟩ := hs
      exact ⟨l' ++ l2, ⟨v', l', l2, rfl, rfl, hs, hr⟩, List.nodup_append.mpr ⟨hd', nd2, fun a ha b hb e => dj a ha (List.mem_append_right _ (e ▸ hb))⟩, fun a ha => by
        rcases List.mem_append.mp ha with q | q
        · exact .inr q
        · exact .inl (List.mem_append_right _ q)⟩
  | some s' :: Γ, o :: σ, l, i + 1, g, nd, dj => by
    obtain ⟨v, l1, l2, rfl, rfl, hv, hr⟩ := g
    obtain ⟨n1, n2, n3⟩ := List.nodup_append.mp nd
    obtain ⟨l3, h1, h2, h3⟩ := SgL.put hs hd' i hr n2 (fun a ha q => dj a ha (List.mem_append_right _ q))
    refine ⟨l1 ++ l3, ⟨v, l1, l3, rfl, rfl, hv, h1⟩, List.nodup_append.mpr ⟨n1, h2, fun a ha b hb e => ?_⟩, fun a ha => ?_⟩
    · subst e
      rcases h3 a hb with q | q
      · exact n3 a ha a q rfl
      · exact dj a q (List.mem_append_left _ ha)
    · rcases List.mem_append.mp ha with q | q
      · exact .inl (List.mem_append_left _ q)
      · rcases h3 a q with z | z
        · exact .inl (List.mem_append_right _ z)
        · exact .inr z
end Lg

namespace Lg
open PySem L2 Evl

theorem SgL.mod {F H : Hp} {s : Sl} : ∀ {Γ : Ctx} {σ : L2.St} {l : List Addr} {i : Nat}, SgL F H Γ σ l → l.Nodup → Γ[i]? = some (some s) → ∃ v l1, σ[i]? = some (some v) ∧ s.P F H v l1 ∧ (∀ a ∈ l1, a ∈ l) ∧
    ∀ (H' : Hp) (s' : Sl), (∀ a, a ∉ l1 → H' a = H a) → s'.P F H' v l1 → SgL F H' (Γ.set i (some s')) σ l
  | [], _, _, _, _, _, h => by simp at h
  | _ :: _, [], _, _, h, _, _ => by cases ‹Option Sl› <;> exact h.elim
  | none :: Γ, _ :: σ, l, 0, _, _, h => by simp at h
  | none :: Γ, _ :: σ, l, i + 1, g, nd, h => by
    have h : Γ[i]? = some (some s) := by simpa using h
    obtain ⟨v, l1, h1, h2, h3, h4⟩ := SgL.mod (Γ := Γ) (σ := σ) (l := l) (i := i) g nd h
    exact ⟨v, l1, by simpa using h1, h2, h3, h4⟩
  | some s' :: Γ, o :: σ, l, 0, g, nd, h => by
    obtain ⟨v, l1, l2, rfl, rfl, hs, hr⟩ := g
    have e : s' = s := by simpa using h
    subst e
    refine ⟨v, l1, rfl, hs, fun a ha => List.mem_append_left _ ha, fun H' s' k hs' => ⟨v, l1, l2, rfl, rfl, hs', SgL.m (Ex.refl F) (fun a ha => k a fun q => ?_) hr⟩⟩
    exact (List.nodup_append.mp nd).2.2 a q a ha rfl
  | some s' :: Γ, o :: σ, l, i + 1, g, nd, h => by
    obtain ⟨v, l1, l2, rfl, rfl, hs, hr⟩ := g
    have h : Γ[i]? = some (some s) := by simpa using h
    obtain ⟨n1, n2, n3⟩ := List.nodup_append.mp nd
    obtain ⟨v', l1', h1, h2, h3, h4⟩ := SgL.mod hr n2 h
    refine ⟨v', l1', by simpa using h1, h2, fun a ha => List.mem_append_right _ (h3 a ha), fun H' s'' k hs'' => ⟨v, l1, l2, rfl, rfl, ?_, h4 H' s'' k hs''⟩⟩
    exact s'.m (Ex.refl F) (fun a ha => k a fun q => n3 a ha a (h3 a q) rfl) hs
/-- a slot's own objects become data -/
theorem SgL.frz {F H : Hp} {s : Sl} : ∀ {Γ : Ctx} {σ : L2.St} {l : List Addr} {i : Nat}, SgL F H Γ σ l → l.Nodup → Γ[i]? = some (some s) → ∃ v l1, σ[i]? = some (some v) ∧ s.P F H v l1 ∧ (∀ a ∈ l1, a ∈ l) ∧
    ∀ (F' : Hp) (s' : Sl), Ex F F' → s'.P F' H v [] → ∃ l2, SgL F' H (Γ.set i (some s')) σ l2 ∧ l2.Nodup ∧ ∀ a ∈ l2, a ∈ l ∧ a ∉ l1
  | [], _, _, _, _, _, h => by simp at h
  | _ :: _, [], _, _, h, _, _ => by cases ‹Option Sl› <;> exact h.elim
  | none :: Γ, _ :: σ, l, 0, _, _, h => by simp at h
  | none :: Γ, _ :: σ, l, i + 1, g, nd, h => by
    have h : Γ[i]? = some (some s) := by simpa using h
    obtain ⟨v, l1, h1, h2, h3, h4⟩ := SgL.frz (Γ := Γ) (σ := σ) (l := l) (i := i) g nd h
    exact ⟨v, l1, by simpa using h1, h2, h3, h4⟩
  | some s1 :: Γ, o :: σ, l, 0, g, nd, h => by
    obtain ⟨v, l1, l2, rfl, rfl, hs, hr⟩ := g
    have e1 : s1 = s := by simpa using h
    subst e1
    obtain ⟨n1, n2, n3⟩ := List.nodup_append.mp nd
    exact ⟨v, l1, rfl, hs, fun a ha => List.mem_append_left _ ha, fun F' s' e q => ⟨l2, ⟨v, [], l2, rfl, rfl, q, SgL.m e (fun _ _ => rfl) hr⟩, n2, fun a ha => ⟨List.mem_append_right _ ha, fun q => n3 a q a ha rfl⟩⟩⟩
  | some s1 :: Γ, o :: σ, l, i + 1, g, nd, h => by
    obtain ⟨v, l1, l2, rfl, rfl, hs, hr⟩ := g
    have h : Γ[i]? = some (some s) := by simpa using h
    obtain ⟨n1, n2, n3⟩ := List.nodup_append.mp nd
    obtain ⟨v', m1, h1, h2, h3, h4⟩ := SgL.frz hr n2 h
    refine ⟨v', m1, by simpa using h1, h2, fun a ha => List.mem_append_right _ (h3 a ha), fun F' s' e q => ?_⟩
    obtain ⟨m2, q1, q2, q3⟩ := h4 F' s' e q
    refine ⟨l1 ++ m2, ⟨v, l1, m2, rfl, rfl, s1.m e (fun _ _ => rfl) hs, q1⟩, List.nodup_append.mpr ⟨n1, q2, fun a ha b hb z => n3 a ha b (q3 b hb).1 z⟩, fun a ha => ?_⟩
    rcases List.mem_append.mp ha with z | z
    · exact ⟨List.mem_append_left _ z, fun q => n3 a z a (h3 a q) rfl⟩
    · exact ⟨List.mem_append_right _ (q3 a z).1, (q3 a z).2⟩

/-! ### judgements by the weakest precondition itself -/
def wE (X : Cx) (e : Expr) : TE := fun σ H Q => ∀ pins s, Inv X pins σ H s → wpAny (model X.prog X.w) X.A (eval e X.env) (EP X pins σ Q) X.xe s
def wT (X : Cx) (e : Expr) : TT := fun σ H Q => ∀ pins s, Inv X pins σ H s → wpAny (model X.prog X.w) X.A (isTrue e X.env (eval e X.env)) (TP X pins σ Q) X.xe s
def wS (X : Cx) (st : List Stmt) : TS := fun D σ H => ∀ pins s, Inv X pins σ H s → wpAny (model X.prog X.w) X.A (execs st X.env) (SP X pins D) X.xe s
theorem pe_w {X : Cx} {e : Expr} : PE X e (wE X e) := ⟨fun pins s _ _ _ I h => h pins s I⟩
theorem pt_w {X : Cx} {e : Expr} : PT X e (wT X e) := ⟨fun pins s _ _ _ I h => h pins s I⟩
theorem pss_w {X : Cx} {st : List Stmt} : PSs X st (wS X st) := ⟨fun pins s _ _ _ I h => h pins s I⟩
theorem wE.of {X : Cx} {e : Expr} {t : TE} {σ : L2.St} {H : Hp} {Q : VK} (h : PE X e t) (q : t σ H Q) : wE X e σ H Q := fun pins s I => h.run pins s σ H Q I q
theorem wT.of {X : Cx} {e : Expr} {t : TT} {σ : L2.St} {H : Hp} {Q : Bool → Hp → Prop} (h : PT X e t) (q : t σ H Q) : wT X e σ H Q := fun pins s I => h.run pins s σ H Q I q
theorem wS.of {X : Cx} {st : List Stmt} {t : TS} {σ : L2.St} {H : Hp} {D : Ends} (h : PSs X st t) (q : t D σ H) : wS X st D σ H := fun pins s I => h.run pins s σ H D I q

/-- te gives a value as s tells it; whatever is tracked stays -/
def EvS (b : Bs) (Γ : Ctx) (te : TE) (s : Sl) : Prop := ∀ σ F H l, SgL F H Γ σ l → Gd b F H l → ∀ Q : VK, (∀ v F' H' l', Gw F H F' H' → s.P F' H' v l' → (∀ a ∈ l', H a = none ∧ F' a = none) → Q v H') → te σ H Q
def TvS (b : Bs) (Γ : Ctx) (tt : TT) (c : Bool) : Prop := ∀ σ F H l, SgL F H Γ σ l → Gd b F H l → ∀ Q : Bool → Hp → Prop, (∀ F' H', Gw F H F' H' → Q c H') → tt σ H Q
/-- data alone, in a row -/
structure Im where
  α : Type
  R : Rl α
  a : α
def Im.sl (x : Im) : Sl := im x.R x.a
def mk {α : Type} (R : Rl α) (a : α) : Im := ⟨α, R, a⟩
inductive Ims (F : Hp) : List V → List Im → Prop
  | nil : Ims F [] []
  | cons {v : V} {x : Im} {vs : List V} {xs : List Im} : x.R.r F v x.a → Ims F vs xs → Ims F (v :: vs) (x :: xs)
theorem Ims.m {F F' : Hp} (e : Ex F F') : ∀ {vs xs}, Ims F vs xs → Ims F' vs xs
  | _, _, .nil => .nil
  | _, _, .cons h t => .cons (Rl.m _ e h) (t.m e)
theorem Ims.len {F : Hp} : ∀ {vs xs}, Ims F vs xs → vs.length = xs.length
  | _, _, .nil => rfl
  | _, _, .cons _ t => by simp [t.len]
def AvS (b : Bs) (Γ : Ctx) (ta : TA) (xs : List Im) : Prop := ∀ σ F H l, SgL F H Γ σ l → Gd b F H l → ∀ Q : List V → Hp → Prop, (∀ vs F' H', Gw F H F' H' → Ims F' vs xs → Q vs H') → ta σ H Q
def EV (X : Cx) (b : Bs) (Γ : Ctx) (e : Expr) (s : Sl) : Prop := EvS b Γ (wE X e) s
def TV (X : Cx) (b : Bs) (Γ : Ctx) (e : Expr) (c : Bool) : Prop := TvS b Γ (wT X e) c
/-- arguments -/
def AV (X : Cx) (b : Bs) (Γ : Ctx) (es : List Expr) (xs : List Im) : Prop := ∃ ta, PA X es ta ∧ AvS b Γ ta xs
section
variable {X : Cx} {b : Bs} {Γ : Ctx} {e e1 e2 : Expr} {s s1 s2 : Sl} {te ta tb : TE} {α β γ : Type} {R : Rl α} {S : Rl β} {T : Rl γ} {x : α} {y : β} {z : γ} {r : R2} {pos : Pos} {c c1 c2 : Bool} {K : PySem.W.Frag}
theorem EV.of (h : PE X e te) (k : EvS b Γ te s) : EV X b Γ e s := fun σ F H l g d Q q => wE.of h (k σ F H l g d Q q)
theorem TV.of {tt : TT} (h : PT X e tt) (k : TvS b Γ tt c) : TV X b Γ e c := fun σ F H l g d Q q => wT.of h (k σ F H l g d Q q)
theorem TV.cast (h : TV X b Γ e c1) (q : c1 = c2) : TV X b Γ e c2 := q ▸ h
theorem EV.cast {x' : α} (h : EV X b Γ e (im R x)) (q : x = x') : EV X b Γ e (im R x') := q ▸ h
theorem EV.to (h : EV X b Γ e (im R x)) (k : ∀ F v, R.r F v x → S.r F v y) : EV X b Γ e (im S y) := fun σ F H l g d Q q => h σ F H l g d Q fun v F' H' l' w p f => q v F' H' l' w ⟨p.1, k F' v p.2⟩ f
/-- an operation upon two values -/
theorem EvS.op2 (ha : EvS b Γ ta (im R x)) (hb : EvS b Γ tb (im S y)) (hr : ∀ F H v w, Ex F H → R.r F v x → S.r F w y → ∀ Q : VK, (∀ u F' H' l', Gw F H F' H' → s.P F' H' u l' → (∀ a ∈ l', H a = none ∧ F' a = none) → Q u H') → r v w H Q) : EvS b Γ (tOp r ta tb) s := fun σ F H l g d Q q =>
  ha σ F H l g d _ fun v F1 H1 l1 w1 p1 _ => hb σ F1 H1 l (g.grow w1) (d.grow g.t w1) _ fun u F2 H2 l2 w2 p2 _ =>
    hr F2 H2 v u w2.e (R.m w2.f p1.2) p2.2 Q fun z F3 H3 l3 w3 p3 f3 => q z F3 H3 l3 ((w1.trans w2).trans w3) p3 fun a ha => ⟨ex_none (w1.trans w2).h (f3 a ha).1, (f3 a ha).2⟩
/-- .. that makes nothing -/
theorem EvS.op2i (ha : EvS b Γ ta (im R x)) (hb : EvS b Γ tb (im S y)) (hr : ∀ F H v w, Ex F H → R.r F v x → S.r F w y → ∀ Q : VK, (∀ u, T.r F u z → Q u H) → r v w H Q) : EvS b Γ (tOp r ta tb) (im T z) :=
  EvS.op2 ha hb fun F H v w e h1 h2 Q q => hr F H v w e h1 h2 Q fun u hu => q u F H [] (Gw.refl e) ⟨rfl, hu⟩ fun _ h => nomatch h
theorem EvS.un {r : V → Hp → VK → Prop} (ha : EvS b Γ ta (im R x)) (hr : ∀ F H v, Ex F H → R.r F v x → ∀ Q : VK, (∀ u, T.r F u z → Q u H) → r v H Q) : EvS b Γ (tUn r ta) (im T z) := fun σ F H l g d Q q =>
  ha σ F H l g d _ fun v F1 H1 l1 w1 p1 _ => hr F1 H1 v w1.e p1.2 Q fun u hu => q u F1 H1 [] w1 ⟨rfl, hu⟩ fun _ h => nomatch h
theorem AV.nil : AV X b Γ [] [] := ⟨_, pa_nil, fun σ F H l g d Q q => q [] F H (Gw.refl d.e) .nil⟩
theorem AV.cons {es : List Expr} {xs : List Im} (h : EV X b Γ e (im R x)) (k : AV X b Γ es xs) (hs : starEach (e :: es) X.env = (false, eval e X.env) :: starEach es X.env := by rfl) : AV X b Γ (e :: es) (mk R x :: xs) := by
  obtain ⟨ta, h1, h2⟩ := k
  refine ⟨_, pa_cons pe_w h1 hs, fun σ F H l g d Q q => ?_⟩
  refine h σ F H l g d _ fun v F1 H1 l1 w1 p1 _ => ?_
  refine h2 σ F1 H1 l (g.grow w1) (d.grow g.t w1) _ fun vs F2 H2 w2 p2 => ?_
  exact q (v :: vs) F2 H2 (w1.trans w2) (.cons (R.m w2.f p1.2) p2)
end
end Lg

namespace Lg
open PySem L2 Evl
section
variable {X : Cx} {b : Bs} {Γ Γ' : Ctx} {e e1 e2 e3 : Expr} {s s1 s2 : Sl} {te ta tb : TE} {α β γ : Type} {R : Rl α} {S : Rl β} {T : Rl γ} {x : α} {y : β} {z : γ} {r : R2} {pos : Pos} {c c1 c2 c3 : Bool} {i j k : Int} {as : List α}
theorem no_l {l' : List Addr} {p : Addr → Prop} (h : l' = []) : ∀ a ∈ l', p a := fun a ha => by rw [h] at ha; cases ha
theorem EvS.mki (h : ∀ σ F H l, SgL F H Γ σ l → Gd b F H l → ∀ Q : VK, (∀ v F' H', Gw F H F' H' → R.r F' v x → Q v H') → te σ H Q) : EvS b Γ te (im R x) := fun σ F H l g d Q q => h σ F H l g d Q fun v F' H' w p => q v F' H' [] w ⟨rfl, p⟩ fun _ h => nomatch h
/-! names and constants -/
theorem EV.var {n : Str} (i : Nat) (h : Γ[i]? = some (some (im R x)) := by rfl) (hN : X.N[i]? = some n := by rfl) (hv : Vis X.env.scope n := by first | exact Or.inl rfl | exact Or.inr (Or.inl rfl) | exact Or.inr (Or.inr rfl)) (hd : (n == ("__debug__" : Str)) = false := by decide)
    (hcd : (n == ("__classdict__" : Str)) = false := by decide) : EV X b Γ (.Name n pos) (im R x) := EV.of (pe_var hN hv hd hcd) (EvS.mki fun σ F H l g d Q q => by
  obtain ⟨v, l1, h1, h2, _⟩ := g.get h
  exact ⟨v, h1, q v F H (Gw.refl d.e) h2.2⟩)
theorem EV.int {j : Nat} : EV X b Γ (.Constant (.int i) j pos) (im rI i) := EV.of pe_int (EvS.mki fun σ F H l g d Q q => q _ F H (Gw.refl d.e) rfl)
theorem EV.bl {j : Nat} : EV X b Γ (.Constant (.bool c) j pos) (im rB c) := EV.of pe_bl (EvS.mki fun σ F H l g d Q q => q _ F H (Gw.refl d.e) rfl)
theorem EV.str {z : Str} {j : Nat} : EV X b Γ (.Constant (.str z) j pos) (im rS z) := EV.of pe_str (EvS.mki fun σ F H l g d Q q => q _ F H (Gw.refl d.e) rfl)
theorem EV.non {j : Nat} : EV X b Γ (.Constant .none j pos) (im rU ()) := EV.of pe_non (EvS.mki fun σ F H l g d Q q => q _ F H (Gw.refl d.e) rfl)
theorem TvS.test (h : EvS b Γ te (im rB c)) : TvS b Γ (tTest te) c := fun σ F H l g d Q q => h σ F H l g d _ fun v F1 H1 l1 w p _ => ⟨c, p.2, q F1 H1 w⟩
theorem TvS.testB (h : EvS b Γ te (im rB c)) : TvS b Γ (tB te) c := fun σ F H l g d Q q => h σ F H l g d _ fun v F1 H1 l1 w p _ => ⟨c, p.2, q F1 H1 w⟩
/-! numbers -/
theorem EvS.ii {g : Int → Int → V} (ha : EvS b Γ ta (im rI i)) (hb : EvS b Γ tb (im rI j)) (hz : ∀ F, T.r F (g i j) z) : EvS b Γ (tOp (rI0 g) ta tb) (im T z) :=
  EvS.op2i ha hb fun F H v w _ h1 h2 Q q => ⟨i, j, h1, h2, q _ (hz F)⟩
theorem EvS.iic {C : Int → Int → Prop} {g : Int → Int → V} (ha : EvS b Γ ta (im rI i)) (hb : EvS b Γ tb (im rI j)) (hc : C i j) (hz : ∀ F, T.r F (g i j) z) : EvS b Γ (tOp (L2.rI C g) ta tb) (im T z) :=
  EvS.op2i ha hb fun F H v w _ h1 h2 Q q => ⟨i, j, h1, h2, hc, q _ (hz F)⟩
theorem EV.add (ha : EV X b Γ e1 (im rI i)) (hb : EV X b Γ e2 (im rI j)) : EV X b Γ (.BinOp e1 .Add e2 pos) (im rI (i + j)) := EV.of (pe_op op_add pe_w pe_w) (EvS.ii (T := rI) (z := (i + j)) ha hb fun _ => rfl)
theorem EV.sub (ha : EV X b Γ e1 (im rI i)) (hb : EV X b Γ e2 (im rI j)) : EV X b Γ (.BinOp e1 .Sub e2 pos) (im rI (i - j)) := EV.of (pe_op op_sub pe_w pe_w) (EvS.ii (T := rI) (z := (i - j)) ha hb fun _ => rfl)
theorem EV.mul (ha : EV X b Γ e1 (im rI i)) (hb : EV X b Γ e2 (im rI j)) (hc : CMul i j) : EV X b Γ (.BinOp e1 .Mult e2 pos) (im rI (i * j)) := EV.of (pe_op op_mul pe_w pe_w) (EvS.iic (T := rI) (z := (i * j)) ha hb hc fun _ => rfl)
theorem EV.fdiv (ha : EV X b Γ e1 (im rI i)) (hb : EV X b Γ e2 (im rI j)) (hc : CDiv i j) : EV X b Γ (.BinOp e1 .FloorDiv e2 pos) (im rI (i / j)) := EV.of (pe_op op_fdiv pe_w pe_w) (EvS.iic (T := rI) (z := (i / j)) ha hb hc fun _ => rfl)
theorem EV.mod (ha : EV X b Γ e1 (im rI i)) (hb : EV X b Γ e2 (im rI j)) (hc : 0 < j) : EV X b Γ (.BinOp e1 .Mod e2 pos) (im rI (i % j)) := EV.of (pe_op op_mod pe_w pe_w) (EvS.iic (T := rI) (z := (i % j)) ha hb hc fun _ => rfl)
theorem EV.shr (ha : EV X b Γ e1 (im rI i)) (hb : EV X b Γ e2 (im rI j)) (hc : 0 ≤ j) : EV X b Γ (.BinOp e1 .RShift e2 pos) (im rI (i / 2 ^ j.toNat)) := EV.of (pe_op op_shr pe_w pe_w) (EvS.iic (T := rI) (z := (i / 2 ^ j.toNat)) ha hb hc fun _ => rfl)
theorem EV.band (ha : EV X b Γ e1 (im rI i)) (hb : EV X b Γ e2 (im rI j)) : EV X b Γ (.BinOp e1 .BitAnd e2 pos) (im rI (Builtin.bitAnd i j)) := EV.of (pe_op op_and pe_w pe_w) (EvS.ii (T := rI) (z := (Builtin.bitAnd i j)) ha hb fun _ => rfl)
theorem EV.neg (ha : EV X b Γ e1 (im rI i)) : EV X b Γ (.UnaryOp .USub e1 pos) (im rI (-i)) := EV.of (pe_un un_neg pe_w) (EvS.un ha fun F H v _ h Q q => ⟨i, h, q _ rfl⟩)
/-! comparisons, as values -/
theorem EV.lt (ha : EV X b Γ e1 (im rI i)) (hb : EV X b Γ e2 (im rI j)) : EV X b Γ (.Compare e1 [.Lt] [e2] pos) (im rB (decide (i < j))) := EV.of (pe_cmpR op_lt pe_w pe_w (nomark _)) (EvS.ii (T := rB) (z := (decide (i < j))) ha hb fun _ => rfl)
theorem TV.lt (ha : EV X b Γ e1 (im rI i)) (hb : EV X b Γ e2 (im rI j)) : TV X b Γ (.Compare e1 [.Lt] [e2] pos) (decide (i < j)) := TV.of (pt_cmpR op_lt pe_w pe_w (nomark _)) (TvS.test (EvS.ii (T := rB) (z := (decide (i < j))) ha hb fun _ => rfl))
theorem EV.le (ha : EV X b Γ e1 (im rI i)) (hb : EV X b Γ e2 (im rI j)) : EV X b Γ (.Compare e1 [.LtE] [e2] pos) (im rB (decide (i ≤ j))) := EV.of (pe_cmpR op_le pe_w pe_w (nomark _)) (EvS.ii (T := rB) (z := (decide (i ≤ j))) ha hb fun _ => rfl)
theorem TV.le (ha : EV X b Γ e1 (im rI i)) (hb : EV X b Γ e2 (im rI j)) : TV X b Γ (.Compare e1 [.LtE] [e2] pos) (decide (i ≤ j)) := TV.of (pt_cmpR op_le pe_w pe_w (nomark _)) (TvS.test (EvS.ii (T := rB) (z := (decide (i ≤ j))) ha hb fun _ => rfl))
theorem EV.gt (ha : EV X b Γ e1 (im rI i)) (hb : EV X b Γ e2 (im rI j)) : EV X b Γ (.Compare e1 [.Gt] [e2] pos) (im rB (decide (j < i))) := EV.of (pe_cmpR op_gt pe_w pe_w (nomark _)) (EvS.ii (T := rB) (z := (decide (j < i))) ha hb fun _ => rfl)
theorem TV.gt (ha : EV X b Γ e1 (im rI i)) (hb : EV X b Γ e2 (im rI j)) : TV X b Γ (.Compare e1 [.Gt] [e2] pos) (decide (j < i)) := TV.of (pt_cmpR op_gt pe_w pe_w (nomark _)) (TvS.test (EvS.ii (T := rB) (z := (decide (j < i))) ha hb fun _ => rfl))
theorem EV.ge (ha : EV X b Γ e1 (im rI i)) (hb : EV X b Γ e2 (im rI j)) : EV X b Γ (.Compare e1 [.GtE] [e2] pos) (im rB (decide (j ≤ i))) := EV.of (pe_cmpR op_ge pe_w pe_w (nomark _)) (EvS.ii (T := rB) (z := (decide (j ≤ i))) ha hb fun _ => rfl)
theorem TV.ge (ha : EV X b Γ e1 (im rI i)) (hb : EV X b Γ e2 (im rI j)) : TV X b Γ (.Compare e1 [.GtE] [e2] pos) (decide (j ≤ i)) := TV.of (pt_cmpR op_ge pe_w pe_w (nomark _)) (TvS.test (EvS.ii (T := rB) (z := (decide (j ≤ i))) ha hb fun _ => rfl))
/-- == of flat values -/
theorem EV.eqv {v w : V} (ha : EV X b Γ e1 (im R x)) (hb : EV X b Γ e2 (im S y)) (hv : ∀ F u, R.r F u x → u = v) (hw : ∀ F u, S.r F u y → u = w) (hs : scal v w = true) : EV X b Γ (.Compare e1 [.Eq] [e2] pos) (im rB (decide (v = w))) :=
  EV.of (pe_cmpR op_eq pe_w pe_w (nomark _)) (EvS.op2i ha hb fun F H v' w' _ h1 h2 Q q => by rw [hv F _ h1, hw F _ h2]; exact ⟨hs, q _ rfl⟩)
theorem TV.eqv {v w : V} (ha : EV X b Γ e1 (im R x)) (hb : EV X b Γ e2 (im S y)) (hv : ∀ F u, R.r F u x → u = v) (hw : ∀ F u, S.r F u y → u = w) (hs : scal v w = true) : TV X b Γ (.Compare e1 [.Eq] [e2] pos) (decide (v = w)) :=
  TV.of (pt_cmpR op_eq pe_w pe_w (nomark _)) (TvS.test (EvS.op2i ha hb fun F H v' w' _ h1 h2 Q q => by rw [hv F _ h1, hw F _ h2]; exact ⟨hs, q _ rfl⟩))
theorem EV.nev {v w : V} (ha : EV X b Γ e1 (im R x)) (hb : EV X b Γ e2 (im S y)) (hv : ∀ F u, R.r F u x → u = v) (hw : ∀ F u, S.r F u y → u = w) (hs : scal v w = true) : EV X b Γ (.Compare e1 [.NotEq] [e2] pos) (im rB (!decide (v = w))) :=
  EV.of (pe_cmpR op_ne pe_w pe_w (nomark _)) (EvS.op2i ha hb fun F H v' w' _ h1 h2 Q q => by rw [hv F _ h1, hw F _ h2]; exact ⟨hs, q _ rfl⟩)
theorem TV.nev {v w : V} (ha : EV X b Γ e1 (im R x)) (hb : EV X b Γ e2 (im S y)) (hv : ∀ F u, R.r F u x → u = v) (hw : ∀ F u, S.r F u y → u = w) (hs : scal v w = true) : TV X b Γ (.Compare e1 [.NotEq] [e2] pos) (!decide (v = w)) :=
  TV.of (pt_cmpR op_ne pe_w pe_w (nomark _)) (TvS.test (EvS.op2i ha hb fun F H v' w' _ h1 h2 Q q => by rw [hv F _ h1, hw F _ h2]; exact ⟨hs, q _ rfl⟩))
theorem EV.eqI (ha : EV X b Γ e1 (im rI i)) (hb : EV X b Γ e2 (im rI j)) : EV X b Γ (.Compare e1 [.Eq] [e2] pos) (im rB (decide (i = j))) := (EV.eqv ha hb (v := .int i) (w := .int j) (fun _ _ h => h) (fun _ _ h => h) rfl).cast (by simp)
theorem EV.neI (ha : EV X b Γ e1 (im rI i)) (hb : EV X b Γ e2 (im rI j)) : EV X b Γ (.Compare e1 [.NotEq] [e2] pos) (im rB (!decide (i = j))) := (EV.nev ha hb (v := .int i) (w := .int j) (fun _ _ h => h) (fun _ _ h => h) rfl).cast (by simp)
theorem TV.eqI (ha : EV X b Γ e1 (im rI i)) (hb : EV X b Γ e2 (im rI j)) : TV X b Γ (.Compare e1 [.Eq] [e2] pos) (decide (i = j)) := (TV.eqv ha hb (v := .int i) (w := .int j) (fun _ _ h => h) (fun _ _ h => h) rfl).cast (by simp)
theorem TV.neI (ha : EV X b Γ e1 (im rI i)) (hb : EV X b Γ e2 (im rI j)) : TV X b Γ (.Compare e1 [.NotEq] [e2] pos) (!decide (i = j)) := (TV.nev ha hb (v := .int i) (w := .int j) (fun _ _ h => h) (fun _ _ h => h) rfl).cast (by simp)
/-! tests -/
theorem TV.val (h : EV X b Γ e (im rB c)) (he : ∀ whole, isTrue e X.env whole = (do let v ← whole; standAt e.pos; holding [v] (truthy v)) := by intro _; rfl) : TV X b Γ e c := TV.of (pt_val pe_w he) fun σ F H l g d Q q =>
  h σ F H l g d _ fun v F1 H1 l1 w p _ => ⟨c, p.2, q F1 H1 w⟩
theorem TvS.seq {tt tu : TT} {f : Bool → Bool} (h1 : TvS b Γ tt c1) (h2 : f c1 = true → TvS b Γ tu c2) : ∀ σ F H l, SgL F H Γ σ l → Gd b F H l → ∀ Q : Bool → Hp → Prop, (∀ F' H', Gw F H F' H' → Q (if f c1 = true then c2 else c1) H') → tt σ H fun c H1 => if f c = true then tu σ H1 Q else Q c H1 := fun σ F H l g d Q q =>
  h1 σ F H l g d _ fun F1 H1 w => by
    by_cases hf : f c1 = true
    · rw [if_pos hf]
      exact h2 hf σ F1 H1 l (g.grow w) (d.grow g.t w) Q fun F2 H2 w2 => by
        have := q F2 H2 (w.trans w2)
        rw [if_pos hf] at this
        exact this
    · rw [if_neg hf]
      have := q F1 H1 w
      rw [if_neg hf] at this
      exact this
theorem TvS.and {tt tu : TT} (h1 : TvS b Γ tt c1) (h2 : c1 = true → TvS b Γ tu c2) : TvS b Γ (tAnd tt tu) (c1 && c2) := fun σ F H l g d Q q =>
  h1 σ F H l g d _ fun F1 H1 w => by
    cases c1 with
    | true => exact h2 rfl σ F1 H1 l (g.grow w) (d.grow g.t w) Q fun F2 H2 w2 => q F2 H2 (w.trans w2)
    | false => exact q F1 H1 w
theorem TvS.or {tt tu : TT} (h1 : TvS b Γ tt c1) (h2 : c1 = false → TvS b Γ tu c2) : TvS b Γ (tOr tt tu) (c1 || c2) := fun σ F H l g d Q q =>
  h1 σ F H l g d _ fun F1 H1 w => by
    cases c1 with
    | true => exact q F1 H1 w
    | false => exact h2 rfl σ F1 H1 l (g.grow w) (d.grow g.t w) Q fun F2 H2 w2 => q F2 H2 (w.trans w2)
theorem TV.and (h1 : TV X b Γ e1 c1) (h2 : c1 = true → TV X b Γ e2 c2) : TV X b Γ (.BoolOp .And [e1, e2] pos) (c1 && c2) := TV.of (PW.pt (pw_and pt_w (pw_and1 pt_w))) (TvS.and h1 h2)
theorem TV.or (h1 : TV X b Γ e1 c1) (h2 : c1 = false → TV X b Γ e2 c2) : TV X b Γ (.BoolOp .Or [e1, e2] pos) (c1 || c2) := TV.of (PW.pt (pw_or pt_w (pw_or1 pt_w))) (TvS.or h1 h2)
theorem TV.and3 (h1 : TV X b Γ e1 c1) (h2 : c1 = true → TV X b Γ e2 c2) (h3 : c1 = true → c2 = true → TV X b Γ e3 c3) : TV X b Γ (.BoolOp .And [e1, e2, e3] pos) (c1 && (c2 && c3)) := TV.of (PW.pt (pw_and pt_w (pw_and pt_w (pw_and1 pt_w)))) (TvS.and h1 fun q => TvS.and (h2 q) (h3 q))
theorem TV.or3 (h1 : TV X b Γ e1 c1) (h2 : c1 = false → TV X b Γ e2 c2) (h3 : c1 = false → c2 = false → TV X b Γ e3 c3) : TV X b Γ (.BoolOp .Or [e1, e2, e3] pos) (c1 || (c2 || c3)) := TV.of (PW.pt (pw_or pt_w (pw_or pt_w (pw_or1 pt_w)))) (TvS.or h1 fun q => TvS.or (h2 q) (h3 q))
theorem TV.not (h1 : TV X b Γ e1 c1) : TV X b Γ (.UnaryOp .Not e1 pos) (!c1) := TV.of (pt_not pt_w) fun σ F H l g d Q q => h1 σ F H l g d _ fun F1 H1 w => q F1 H1 w
/-- a chain of two -/
theorem EvS.chain {r r' : R2} {tc : TE} (ha : EvS b Γ ta (im R x)) (hb : EvS b Γ tb (im S y)) (hc : c1 = true → EvS b Γ tc (im T z)) (h1 : ∀ F H v w, R.r F v x → S.r F w y → ∀ Q : VK, Q (.bl c1) H → r v w H Q)
    (h2 : ∀ F H v w, S.r F v y → T.r F w z → ∀ Q : VK, Q (.bl c2) H → r' v w H Q) : ∀ σ F H l, SgL F H Γ σ l → Gd b F H l → ∀ Q : VK, (∀ F' H', Gw F H F' H' → Q (.bl (c1 && c2)) H') → tChain r r' ta tb tc σ H Q := fun σ F H l g d Q q =>
  ha σ F H l g d _ fun v F1 H1 l1 w1 p1 _ => hb σ F1 H1 l (g.grow w1) (d.grow g.t w1) _ fun u F2 H2 l2 w2 p2 _ => h1 F2 H2 v u (R.m w2.f p1.2) p2.2 _ ⟨c1, rfl, by
    have w12 := w1.trans w2
    cases c1 with
    | true => exact hc rfl σ F2 H2 l (g.grow w12) (d.grow g.t w12) _ fun t F3 H3 l3 w3 p3 _ => h2 F3 H3 u t (S.m w3.f p2.2) p3.2 Q (q F3 H3 (w12.trans w3))
    | false => exact q F2 H2 w12⟩
theorem rIlt {F H : Hp} {v w : V} {Q : VK} {p : Int → Int → Bool} (h1 : rI.r F v i) (h2 : rI.r F w j) (q : Q (.bl (p i j)) H) : rI0 (fun i j => .bl (p i j)) v w H Q := ⟨i, j, h1, h2, q⟩
theorem EV.leLt (ha : EV X b Γ e1 (im rI i)) (hb : EV X b Γ e2 (im rI j)) (hc : EV X b Γ e3 (im rI k)) (hm : lastMarks [.LtE, .Lt] [e2, e3] = false := by rfl) : EV X b Γ (.Compare e1 [.LtE, .Lt] [e2, e3] pos) (im rB (decide (i ≤ j) && decide (j < k))) :=
  EV.of (pe_chain op_le op_lt pe_w pe_w pe_w (hm := hm)) (EvS.mki fun σ F H l g d Q q => EvS.chain (r := rI0 fun i j => .bl (decide (i ≤ j))) (r' := rI0 fun i j => .bl (decide (i < j))) ha hb (fun _ => hc) (fun F H v w h1 h2 Q q => rIlt (p := fun i j => decide (i ≤ j)) h1 h2 q) (fun F H v w h1 h2 Q q => rIlt (p := fun i j => decide (i < j)) h1 h2 q) σ F H l g d Q fun F' H' w => q _ F' H' w rfl)
theorem EV.leLe (ha : EV X b Γ e1 (im rI i)) (hb : EV X b Γ e2 (im rI j)) (hc : EV X b Γ e3 (im rI k)) (hm : lastMarks [.LtE, .LtE] [e2, e3] = false := by rfl) : EV X b Γ (.Compare e1 [.LtE, .LtE] [e2, e3] pos) (im rB (decide (i ≤ j) && decide (j ≤ k))) :=
  EV.of (pe_chain op_le op_le pe_w pe_w pe_w (hm := hm)) (EvS.mki fun σ F H l g d Q q => EvS.chain (r := rI0 fun i j => .bl (decide (i ≤ j))) (r' := rI0 fun i j => .bl (decide (i ≤ j))) ha hb (fun _ => hc) (fun F H v w h1 h2 Q q => rIlt (p := fun i j => decide (i ≤ j)) h1 h2 q) (fun F H v w h1 h2 Q q => rIlt (p := fun i j => decide (i ≤ j)) h1 h2 q) σ F H l g d Q fun F' H' w => q _ F' H' w rfl)
theorem TV.leLt (ha : EV X b Γ e1 (im rI i)) (hb : EV X b Γ e2 (im rI j)) (hc : EV X b Γ e3 (im rI k)) (hm : lastMarks [.LtE, .Lt] [e2, e3] = false := by rfl) : TV X b Γ (.Compare e1 [.LtE, .Lt] [e2, e3] pos) (decide (i ≤ j) && decide (j < k)) :=
  TV.of (pt_chain op_le op_lt pe_w pe_w pe_w (hm := hm)) fun σ F H l g d Q q => EvS.chain (r := rI0 fun i j => .bl (decide (i ≤ j))) (r' := rI0 fun i j => .bl (decide (i < j))) ha hb (fun _ => hc) (fun F H v w h1 h2 Q q => rIlt (p := fun i j => decide (i ≤ j)) h1 h2 q) (fun F H v w h1 h2 Q q => rIlt (p := fun i j => decide (i < j)) h1 h2 q) σ F H l g d _ fun F' H' w => ⟨_, rfl, q F' H' w⟩
theorem TV.leLe (ha : EV X b Γ e1 (im rI i)) (hb : EV X b Γ e2 (im rI j)) (hc : EV X b Γ e3 (im rI k)) (hm : lastMarks [.LtE, .LtE] [e2, e3] = false := by rfl) : TV X b Γ (.Compare e1 [.LtE, .LtE] [e2, e3] pos) (decide (i ≤ j) && decide (j ≤ k)) :=
  TV.of (pt_chain op_le op_le pe_w pe_w pe_w (hm := hm)) fun σ F H l g d Q q => EvS.chain (r := rI0 fun i j => .bl (decide (i ≤ j))) (r' := rI0 fun i j => .bl (decide (i ≤ j))) ha hb (fun _ => hc) (fun F H v w h1 h2 Q q => rIlt (p := fun i j => decide (i ≤ j)) h1 h2 q) (fun F H v w h1 h2 Q q => rIlt (p := fun i j => decide (i ≤ j)) h1 h2 q) σ F H l g d _ fun F' H' w => ⟨_, rfl, q F' H' w⟩
theorem EV.ife (h : TV X b Γ e1 c) (h1 : c = true → EV X b Γ e2 (im R x)) (h2 : c = false → EV X b Γ e3 (im R x)) : EV X b Γ (.IfExp e1 e2 e3 pos) (im R x) := EV.of (pe_ifExp pt_w pe_w pe_w) fun σ F H l g d Q q =>
  h σ F H l g d _ fun F1 H1 w => by
    have go := fun v F' H' l' (w' : Gw F1 H1 F' H') p (f : ∀ a ∈ l', H1 a = none ∧ F' a = none) => q v F' H' l' (w.trans w') p fun a ha => ⟨ex_none w.h (f a ha).1, (f a ha).2⟩
    cases c with
    | true => exact h1 rfl σ F1 H1 l (g.grow w) (d.grow g.t w) Q go
    | false => exact h2 rfl σ F1 H1 l (g.grow w) (d.grow g.t w) Q go
/-- a and b, a or b, not a as values -/
theorem EV.andV (h1 : EV X b Γ e1 (im rB c1)) (h2 : c1 = true → EV X b Γ e2 (im rB c2)) : EV X b Γ (.BoolOp .And [e1, e2] pos) (im rB (c1 && c2)) := EV.of (pe_and pe_w (pe_one pe_w)) (EvS.mki fun σ F H l g d Q q =>
  h1 σ F H l g d _ fun v F1 H1 l1 w p _ => ⟨c1, p.2, by
    cases c1 with
    | true => exact h2 rfl σ F1 H1 l (g.grow w) (d.grow g.t w) _ fun v F2 H2 l2 w2 p2 _ => q v F2 H2 (w.trans w2) p2.2
    | false => exact q _ F1 H1 w rfl⟩)
theorem EV.orV (h1 : EV X b Γ e1 (im rB c1)) (h2 : c1 = false → EV X b Γ e2 (im rB c2)) : EV X b Γ (.BoolOp .Or [e1, e2] pos) (im rB (c1 || c2)) := EV.of (pe_or pe_w (pe_one pe_w)) (EvS.mki fun σ F H l g d Q q =>
  h1 σ F H l g d _ fun v F1 H1 l1 w p _ => ⟨c1, p.2, by
    cases c1 with
    | true => exact q _ F1 H1 w rfl
    | false => exact h2 rfl σ F1 H1 l (g.grow w) (d.grow g.t w) _ fun v F2 H2 l2 w2 p2 _ => q v F2 H2 (w.trans w2) p2.2⟩)
theorem EV.notV (h1 : EV X b Γ e1 (im rB c1)) : EV X b Γ (.UnaryOp .Not e1 pos) (im rB (!c1)) := EV.of (pe_not pe_w) (EvS.mki fun σ F H l g d Q q =>
  h1 σ F H l g d _ fun v F1 H1 l1 w p _ => ⟨c1, p.2, q _ F1 H1 w rfl⟩)
/-! displays -/
theorem Ims.all {F : Hp} : ∀ {vs : List V} {as : List α}, Ims F vs (as.map (mk R)) → All2 (R.r F) vs as
  | _, [], h => by cases h; exact .nil
  | _, a :: as, h => by
    cases h with
    | cons h1 h2 => exact .cons h1 (Ims.all h2)
theorem EV.tup {es : List Expr} {xs : List Im} {k : Nat} (h : AV X b Γ es xs) (hx : xs = as.map (mk R)) (hl : as.length ≤ 1000) : EV X b Γ (.Tuple es k pos) (im (rT R) as) := by
  obtain ⟨ta, h1, h2⟩ := h
  refine EV.of (pe_tup h1) (EvS.mki fun σ F H l g d Q q => h2 σ F H l g d _ fun vs F1 H1 w p => ?_)
  rw [hx] at p
  have p := Ims.all p
  exact ⟨Nat.le_of_lt (small1000 (by rw [p.len]; exact hl)), fun a ha => q _ _ _ (w.trans (Gw.new w.e ha)) ⟨a, vs, rfl, upd_same, p.imp fun _ _ => R.m (Ex.new (ex_none w.e ha))⟩⟩
theorem EV.pair {es : List Expr} {k : Nat} (h : AV X b Γ es [mk R x, mk S y]) : EV X b Γ (.Tuple es k pos) (im (rP R S) (x, y)) := by
  obtain ⟨ta, k1, k2⟩ := h
  refine EV.of (pe_tup k1) (EvS.mki fun σ F H l g d Q q => k2 σ F H l g d _ fun vs F1 H1 w p => ?_)
  cases p with
  | cons p1 p =>
    cases p with
    | cons p2 p =>
      cases p
      exact ⟨Nat.le_of_lt (small1000 (show 2 ≤ 1000 by decide)), fun a ha => q _ _ _ (w.trans (Gw.new w.e ha)) ⟨a, _, _, rfl, upd_same, R.m (Ex.new (ex_none w.e ha)) p1, S.m (Ex.new (ex_none w.e ha)) p2⟩⟩
theorem EV.tri {es : List Expr} {k : Nat} (h : AV X b Γ es [mk R x, mk S y, mk T z]) : EV X b Γ (.Tuple es k pos) (im (rP3 R S T) (x, y, z)) := by
  obtain ⟨ta, k1, k2⟩ := h
  refine EV.of (pe_tup k1) (EvS.mki fun σ F H l g d Q q => k2 σ F H l g d _ fun vs F1 H1 w p => ?_)
  cases p with
  | cons p1 p =>
    cases p with
    | cons p2 p =>
      cases p with
      | cons p3 p =>
        cases p
        exact ⟨Nat.le_of_lt (small1000 (show 3 ≤ 1000 by decide)), fun a ha => q _ _ _ (w.trans (Gw.new w.e ha)) ⟨a, _, _, _, rfl, upd_same, R.m (Ex.new (ex_none w.e ha)) p1, S.m (Ex.new (ex_none w.e ha)) p2, T.m (Ex.new (ex_none w.e ha)) p3⟩⟩
theorem EV.lst {es : List Expr} {xs : List Im} (h : AV X b Γ es xs) (hx : xs = as.map (mk R)) (hl : as.length ≤ 1000) : EV X b Γ (.List es pos) (ow R as) := by
  obtain ⟨ta, h1, h2⟩ := h
  refine EV.of (pe_lst h1) fun σ F H l g d Q q => h2 σ F H l g d _ fun vs F1 H1 w p => ?_
  rw [hx] at p
  have p := Ims.all p
  exact ⟨Nat.le_of_lt (small1000 (by rw [p.len]; exact hl)), fun a ha => q _ _ _ [a] (w.trans (Gw.own w.e ha)) ⟨a, vs, rfl, rfl, upd_same, p⟩ fun c hc => by
    rw [List.mem_singleton.mp hc]; exact ⟨ex_none w.h ha, ex_none w.e ha⟩⟩
/-- one's own becomes data -/
theorem EV.fz (h : EV X b Γ e (ow R as)) : EV X b Γ e (im (rL R) as) := EvS.mki fun σ F H l g d Q q => h σ F H l g d Q fun v F' H' l' w ⟨p, xs, h1, h2, h3, h4⟩ f => by
  subst h1 h2
  obtain ⟨f1, f2⟩ := f p (List.mem_singleton.mpr rfl)
  refine q _ (upd F' p (.lst xs)) H' ⟨w.f.trans (Ex.new f2), w.h, fun a u ha => ?_, fun a h1 h2 => ?_⟩ ⟨p, xs, rfl, upd_same, h4.imp fun _ _ => R.m (Ex.new f2)⟩
  · by_cases z : a = p
    · subst z; rw [upd_same] at ha; rw [h3]; exact ha
    · rw [upd_ne z] at ha; exact w.e a u ha
  · rw [upd_ne (fun z => h2 (by rw [z]; exact f1))]; exact w.k a h1 h2
/-! reading lists, tuples -/
theorem atI_all {p : V → α → Prop} {xs : List V} {a : α} (h : All2 p xs as) (k : atI as i = some a) : ∃ v, atI xs i = some v ∧ p v a := by
  unfold atI at k ⊢
  rw [← h.len] at k
  cases e : ixN xs.length i with
  | none => rw [e] at k; cases k
  | some j =>
    rw [e] at k
    obtain ⟨v, h1, h2⟩ := h.get (i := j) k
    exact ⟨v, h1, h2⟩
theorem EV.ixL {a : α} (h : EV X b Γ e1 (im (rL R) as)) (hi : EV X b Γ e2 (im rI i)) (ha : atI as i = some a) (hs : PlainIx e2 := by exact (fun _ _ => rfl)) : EV X b Γ (.Subscript e1 e2 pos) (im R a) :=
  EV.of (pe_ix ix_list pe_w pe_w hs) (EvS.op2i h hi fun F H v w e ⟨p, xs, h1, h2, h3⟩ hw Q q => by
    obtain ⟨u, k1, k2⟩ := atI_all h3 ha
    exact ⟨p, xs, i, u, h1, hw, SqL.of (e p _ h2), k1, q u k2⟩)
theorem EV.ixT {a : α} (h : EV X b Γ e1 (im (rT R) as)) (hi : EV X b Γ e2 (im rI i)) (ha : atI as i = some a) (hs : PlainIx e2 := by exact (fun _ _ => rfl)) : EV X b Γ (.Subscript e1 e2 pos) (im R a) :=
  EV.of (pe_ix ix_tup pe_w pe_w hs) (EvS.op2i h hi fun F H v w e ⟨p, xs, h1, h2, h3⟩ hw Q q => by
    obtain ⟨u, k1, k2⟩ := atI_all h3 ha
    exact ⟨p, xs, i, u, h1, hw, SqT.of (e p _ h2), k1, q u k2⟩)
theorem EV.ixQ {a : α} {as : Bool × List α} (h : EV X b Γ e1 (im (rQ R) as)) (hi : EV X b Γ e2 (im rI i)) (ha : atI as.2 i = some a) (hs : PlainIx e2 := by exact (fun _ _ => rfl)) : EV X b Γ (.Subscript e1 e2 pos) (im R a) :=
  EV.of (pe_ix ix_seq pe_w pe_w hs) (EvS.op2i h hi fun F H v w e ⟨q1, q2⟩ hw Q q => by
    obtain ⟨t, as⟩ := as
    cases t with
    | true =>
      obtain ⟨p, xs, h1, h2, h3⟩ := q1 rfl
      obtain ⟨u, k1, k2⟩ := atI_all h3 ha
      exact .inr (.inl ⟨p, xs, i, u, h1, hw, SqT.of (e p _ h2), k1, q u k2⟩)
    | false =>
      obtain ⟨p, xs, h1, h2, h3⟩ := q2 rfl
      obtain ⟨u, k1, k2⟩ := atI_all h3 ha
      exact .inl ⟨p, xs, i, u, h1, hw, SqL.of (e p _ h2), k1, q u k2⟩)
theorem EV.ixSc {ns : List Int} {a : Int} (h : EV X b Γ e1 (im (rSc X.K) ns)) (hi : EV X b Γ e2 (im rI i)) (ha : atI ns i = some a) (hs : PlainIx e2 := by exact (fun _ _ => rfl)) : EV X b Γ (.Subscript e1 e2 pos) (im rI a) :=
  EV.of (pe_ix ix_list pe_w pe_w hs) (EvS.op2i h hi fun F H v w e ⟨p, h1, h2⟩ hw Q q => by
    have k : atI (ns.map V.int) i = some (.int a) := by
      unfold atI at ha ⊢
      rw [List.length_map]
      cases e : ixN ns.length i with
      | none => rw [e] at ha; cases ha
      | some j =>
        rw [e] at ha
        have ha : ns[j]? = some a := ha
        show (ns.map V.int)[j]? = _
        rw [List.getElem?_map, ha]; rfl
    exact ⟨p, _, i, _, h1, hw, ex_l e h2, k, q _ rfl⟩)
theorem EV.ixP0 {p2 : Pos} {k : Nat} (h : EV X b Γ e1 (im (rP R S) (x, y))) : EV X b Γ (.Subscript e1 (.Constant (.int 0) k p2) pos) (im R x) :=
  EV.of (pe_ix ix_tup pe_w pe_w (fun _ _ => rfl)) (EvS.op2i h (EV.int (i := 0)) fun F H v w e ⟨p, u1, u2, h1, h2, h3, h4⟩ hw Q q => ⟨p, _, 0, u1, h1, hw, SqT.of (e p _ h2), rfl, q u1 h3⟩)
theorem EV.ixP1 {p2 : Pos} {k : Nat} (h : EV X b Γ e1 (im (rP R S) (x, y))) : EV X b Γ (.Subscript e1 (.Constant (.int 1) k p2) pos) (im S y) :=
  EV.of (pe_ix ix_tup pe_w pe_w (fun _ _ => rfl)) (EvS.op2i h (EV.int (i := 1)) fun F H v w e ⟨p, u1, u2, h1, h2, h3, h4⟩ hw Q q => ⟨p, _, 1, u2, h1, hw, SqT.of (e p _ h2), rfl, q u2 h4⟩)
theorem EV.ixR0 {p2 : Pos} {k : Nat} (h : EV X b Γ e1 (im (rP3 R S T) (x, y, z))) : EV X b Γ (.Subscript e1 (.Constant (.int 0) k p2) pos) (im R x) :=
  EV.of (pe_ix ix_tup pe_w pe_w (fun _ _ => rfl)) (EvS.op2i h (EV.int (i := 0)) fun F H v w e ⟨p, u1, u2, u3, h1, h2, h3, h4, h5⟩ hw Q q => ⟨p, _, 0, u1, h1, hw, SqT.of (e p _ h2), rfl, q u1 h3⟩)
theorem EV.ixR1 {p2 : Pos} {k : Nat} (h : EV X b Γ e1 (im (rP3 R S T) (x, y, z))) : EV X b Γ (.Subscript e1 (.Constant (.int 1) k p2) pos) (im S y) :=
  EV.of (pe_ix ix_tup pe_w pe_w (fun _ _ => rfl)) (EvS.op2i h (EV.int (i := 1)) fun F H v w e ⟨p, u1, u2, u3, h1, h2, h3, h4, h5⟩ hw Q q => ⟨p, _, 1, u2, h1, hw, SqT.of (e p _ h2), rfl, q u2 h4⟩)
theorem EV.ixR2 {p2 : Pos} {k : Nat} (h : EV X b Γ e1 (im (rP3 R S T) (x, y, z))) : EV X b Γ (.Subscript e1 (.Constant (.int 2) k p2) pos) (im T z) :=
  EV.of (pe_ix ix_tup pe_w pe_w (fun _ _ => rfl)) (EvS.op2i h (EV.int (i := 2)) fun F H v w e ⟨p, u1, u2, u3, h1, h2, h3, h4, h5⟩ hw Q q => ⟨p, _, 2, u3, h1, hw, SqT.of (e p _ h2), rfl, q u3 h5⟩)
end
end Lg

namespace Lg
open PySem L2 Evl
structure EndC where
  nx : Ctx → Prop
  rt : Sl → Prop
  bk : Ctx → Prop := fun _ => False
  ct : Ctx → Prop := fun _ => False
def Sg (b : Bs) (Γ : Ctx) (σ : L2.St) (F H : Hp) : Prop := ∃ l, SgL F H Γ σ l ∧ Gd b F H l
def Rt (b : Bs) (P : Sl → Prop) (v : V) (H : Hp) : Prop := ∃ s F l, s.P F H v l ∧ Gd b F H l ∧ P s
def At (b : Bs) (P : Ctx → Prop) (σ : L2.St) (H : Hp) : Prop := ∃ Γ F, Sg b Γ σ F H ∧ P Γ
def EndC.ends (b : Bs) (C : EndC) : Ends := { nx := At b C.nx, rt := Rt b C.rt, bk := At b C.bk, ct := At b C.ct }
def HT (X : Cx) (b : Bs) (C : EndC) (Γ : Ctx) (sts : List Stmt) : Prop := ∀ σ F H, Sg b Γ σ F H → wS X sts (C.ends b) σ H
/-- some slots forgotten -/
inductive Le : Ctx → Ctx → Prop
  | nil : Le [] []
  | drop {o : Option Sl} {Γ Γ' : Ctx} : Le Γ Γ' → Le (o :: Γ) (none :: Γ')
  | keep {o : Option Sl} {Γ Γ' : Ctx} : Le Γ Γ' → Le (o :: Γ) (o :: Γ')
theorem Le.refl : ∀ Γ : Ctx, Le Γ Γ
  | [] => .nil
  | _ :: Γ => .keep (Le.refl Γ)
theorem SgL.le {F H : Hp} {Γ Γ' : Ctx} (h : Le Γ Γ') : ∀ {σ : L2.St} {l : List Addr}, SgL F H Γ σ l → ∃ l', SgL F H Γ' σ l' ∧ l'.Sublist l := by
  induction h with
  | nil => exact fun {σ l} g => ⟨l, g, List.Sublist.refl _⟩
  | @drop o Γ Γ' h ih =>
    intro σ l g
    cases σ with
    | nil => cases o <;> exact g.elim
    | cons w σ =>
      cases o with
      | none => exact ih (σ := σ) (l := l) g
      | some s =>
        obtain ⟨v, l1, l2, rfl, rfl, _, hr⟩ := g
        obtain ⟨l', h1, h2⟩ := ih hr
        exact ⟨l', h1, h2.trans (List.sublist_append_right _ _)⟩
  | @keep o Γ Γ' h ih =>
    intro σ l g
    cases σ with
    | nil => cases o <;> exact g.elim
    | cons w σ =>
      cases o with
      | none => exact ih (σ := σ) (l := l) g
      | some s =>
        obtain ⟨v, l1, l2, rfl, rfl, hs, hr⟩ := g
        obtain ⟨l', h1, h2⟩ := ih hr
        exact ⟨l1 ++ l', ⟨v, l1, l', rfl, rfl, hs, h1⟩, List.Sublist.append (List.Sublist.refl _) h2⟩
theorem Gd.sub {b : Bs} {F H : Hp} {l l' : List Addr} (d : Gd b F H l) (h : l'.Sublist l) : Gd b F H l' :=
  ⟨d.ef, d.eb, d.e, d.k, h.nodup d.nd, fun a ha => d.of a (h.mem ha), fun a ha => d.ob a (h.mem ha)⟩
theorem Gd.of_l {b : Bs} {F H : Hp} {l l' : List Addr} (d : Gd b F H l) (nd : l'.Nodup) (h : ∀ a ∈ l', F a = none ∧ b.B a = none) : Gd b F H l' :=
  ⟨d.ef, d.eb, d.e, d.k, nd, fun a ha => (h a ha).1, fun a ha => (h a ha).2⟩
theorem wS.mono {X : Cx} {sts : List Stmt} {D D' : Ends} {σ : L2.St} {H : Hp} (h : wS X sts D σ H) (n : ∀ σ H, D.nx σ H → D'.nx σ H) (r : ∀ v H, D.rt v H → D'.rt v H) (bk : ∀ σ H, D.bk σ H → D'.bk σ H) (ct : ∀ σ H, D.ct σ H → D'.ct σ H) : wS X sts D' σ H := fun pins s I =>
  thn (h pins s I) fun f s1 q => by
    cases f with
    | next => obtain ⟨σ', H', I', q⟩ := q; exact ⟨σ', H', I', n _ _ q⟩
    | brk => obtain ⟨σ', H', I', q⟩ := q; exact ⟨σ', H', I', bk _ _ q⟩
    | cont => obtain ⟨σ', H', I', q⟩ := q; exact ⟨σ', H', I', ct _ _ q⟩
    | ret u => obtain ⟨v, σ', H', I', rv, q⟩ := q; exact ⟨v, σ', H', I', rv, r _ _ q⟩
section
variable {X : Cx} {b : Bs} {C C' : EndC} {Γ Γ' Γ'' : Ctx} {e e1 e2 : Expr} {s : Sl} {α β : Type} {R : Rl α} {S : Rl β} {x : α} {y : β} {as : List α} {st : Stmt} {rest bd el : List Stmt} {t : TS} {pos pos' : Pos} {c : Bool} {i j : Nat} {n : Str}
theorem HT.step (h1 : PS X st t) (k : ∀ σ F H, Sg b Γ σ F H → t { C.ends b with nx := wS X rest (C.ends b) } σ H) : HT X b C Γ (st :: rest) := fun σ F H g => wS.of (pss_cons h1 pss_w) (k σ F H g)
theorem HT.nil (h : C.nx Γ) : HT X b C Γ [] := fun σ F H g => wS.of pss_nil ⟨Γ, F, g, h⟩
theorem HT.weak {sts : List Stmt} (h : Le Γ Γ') (k : HT X b C Γ' sts) : HT X b C Γ sts := fun σ F H ⟨l, g, d⟩ => by
  obtain ⟨l', g', h'⟩ := SgL.le h g
  exact k σ F H ⟨l', g', d.sub h'⟩
theorem HT.done (h : Le Γ Γ') (k : C.nx Γ') : HT X b C Γ [] := HT.weak h (HT.nil k)
theorem HT.mono {sts : List Stmt} (h : HT X b C Γ sts) (n : ∀ Γ, C.nx Γ → C'.nx Γ) (r : ∀ s, C.rt s → C'.rt s) (bk : ∀ Γ, C.bk Γ → C'.bk Γ) (ct : ∀ Γ, C.ct Γ → C'.ct Γ) : HT X b C' Γ sts := fun σ F H g =>
  wS.mono (h σ F H g) (fun _ _ ⟨Γ, F, g, p⟩ => ⟨Γ, F, g, n _ p⟩) (fun _ _ ⟨s, F, l, h1, h2, p⟩ => ⟨s, F, l, h1, h2, r _ p⟩) (fun _ _ ⟨Γ, F, g, p⟩ => ⟨Γ, F, g, bk _ p⟩) (fun _ _ ⟨Γ, F, g, p⟩ => ⟨Γ, F, g, ct _ p⟩)
/-- the ends of a block within, the rest behind -/
abbrev EndC.into (C : EndC) (X : Cx) (b : Bs) (rest : List Stmt) : EndC := { C with nx := fun Γ => HT X b C Γ rest }
theorem HT.into {X' : Cx} {σ : L2.St} {H : Hp} (h : wS X' bd ((C.into X b rest).ends b) σ H) : wS X' bd { C.ends b with nx := wS X rest (C.ends b) } σ H :=
  wS.mono h (fun σ H ⟨Γ, F, g, p⟩ => p σ F H g) (fun _ _ q => q) (fun _ _ q => q) (fun _ _ q => q)
/-- a value is stored -/
theorem Sg.put {σ : L2.St} {F H F' H' : Hp} {l l' : List Addr} {v : V} (i : Nat) (g : SgL F H Γ σ l) (d : Gd b F H l) (w : Gw F H F' H') (p : s.P F' H' v l') (f : ∀ a ∈ l', H a = none ∧ F' a = none) : Sg b (Γ.set i (some s)) (σ.set i (some v)) F' H' := by
  have d' := d.grow g.t w
  obtain ⟨l2, h1, h2, h3⟩ := SgL.put (o' := some s) (w := some v) (l' := l') ⟨v, rfl, p⟩ (s.d p) i (g.grow w) d.nd (fun a ha q => g.t a q (f a ha).1)
  exact ⟨l2, h1, d'.of_l h2 fun a ha => by
    rcases h3 a ha with q | q
    · exact ⟨d'.of a q, d'.ob a q⟩
    · exact ⟨(f a q).2, ex_none d.eb (f a q).1⟩⟩
theorem HT.set (i : Nat) (he : EV X b Γ e s) (k : HT X b C (Γ.set i (some s)) rest) (nd : X.N.Nodup) (hi : X.N[i]? = some n := by rfl) (hx : Loc X.env.scope n := by first | exact Or.inl rfl | exact Or.inr rfl) (hs : swapsWith e (some (.Name n pos')) pos.line X.env = pure false := by rfl)
    (hf : X.fn n = true ∨ X.env.scope.names.lookup n = some .local := by first | exact .inl rfl | exact .inr rfl | assumption) : HT X b C Γ (.Assign [.Name n pos'] e pos :: rest) :=
  HT.step (ps_set nd hi hx pe_w hs hf) fun σ F H ⟨l, g, d⟩ => he σ F H l g d _ fun v F' H' l' w p f => k _ _ _ (Sg.put i g d w p f)
theorem HT.ret (he : EV X b Γ e s) (k : C.rt s) : HT X b C Γ (.Return (some e) pos :: rest) :=
  HT.step (ps_ret pe_w) fun σ F H ⟨l, g, d⟩ => he σ F H l g d _ fun v F' H' l' w p f => ⟨s, F', l', p, (d.grow g.t w).of_l (s.d p) fun a ha => ⟨(f a ha).2, ex_none d.eb (f a ha).1⟩, k⟩
theorem HT.retN (k : C.rt (im rU ())) : HT X b C Γ (.Return none pos :: rest) := HT.step ps_retN fun σ F H ⟨l, g, d⟩ => ⟨im rU (), F, [], ⟨rfl, rfl⟩, d.of_l List.nodup_nil (fun _ h => nomatch h), k⟩
theorem HT.expr (he : EV X b Γ e s) (k : HT X b C Γ rest) (hs : swapsWith e none pos.line X.env = pure false := by rfl) : HT X b C Γ (.Expr e pos :: rest) :=
  HT.step (ps_expr pe_w hs) fun σ F H ⟨l, g, d⟩ => he σ F H l g d _ fun v F' H' l' w p f => k σ F' H' ⟨l, g.grow w, d.grow g.t w⟩
theorem HT.ite (h : TV X b Γ e c) (h1 : c = true → HT X b (C.into X b rest) Γ bd) (h2 : c = false → HT X b (C.into X b rest) Γ el) : HT X b C Γ (.If e bd el pos :: rest) :=
  HT.step (ps_if pt_w pss_w pss_w) fun σ F H ⟨l, g, d⟩ => h σ F H l g d _ fun F' H' w => by
    have g' : Sg b Γ σ F' H' := ⟨l, g.grow w, d.grow g.t w⟩
    cases c with
    | true => exact HT.into (h1 rfl σ F' H' g')
    | false => exact HT.into (h2 rfl σ F' H' g')
/-- if e: bd -/
theorem HT.when (h : TV X b Γ e c) (h1 : c = true → HT X b (C.into X b rest) Γ bd) (h2 : c = false → HT X b C Γ rest) : HT X b C Γ (.If e bd [] pos :: rest) := HT.ite h h1 fun q => HT.nil (h2 q)
theorem HT.brk (k : C.bk Γ) : HT X b C Γ (.Break pos :: rest) := HT.step ps_break fun σ F H g => ⟨Γ, F, g, k⟩
theorem HT.cont (k : C.ct Γ) : HT X b C Γ (.Continue pos :: rest) := HT.step ps_continue fun σ F H g => ⟨Γ, F, g, k⟩
theorem HT.pass (k : HT X b C Γ rest) : HT X b C Γ (.Pass pos :: rest) := HT.step ps_pass fun σ F H g => k σ F H g
/-- a way that can't be -/
theorem HT.no {sts : List Stmt} (h : False) : HT X b C Γ sts := h.elim
theorem HT.aug {op : Operator} {f : Int → Int → Int} {a c : Int} (ho : PIp X op (ipI f)) (i : Nat) (hΓ : Γ[i]? = some (some (im rI a))) (he : EV X b Γ e (im rI c)) (k : HT X b C (Γ.set i (some (im rI (f a c)))) rest) (nd : X.N.Nodup) (hi : X.N[i]? = some n := by rfl) (hx : Loc X.env.scope n := by first | exact Or.inl rfl | exact Or.inr rfl)
    (hf : X.fn n = true ∨ X.env.scope.names.lookup n = some .local := by first | exact .inl rfl | exact .inr rfl | assumption) : HT X b C Γ (.AugAssign (.Name n pos') op e pos :: rest) :=
  HT.step (ps_aug nd hi hx pe_w ho hf) fun σ F H ⟨l, g, d⟩ => by
    obtain ⟨v, l1, h1, h2, _⟩ := g.get hΓ
    refine ⟨v, h1, he σ F H l g d _ fun u F' H' l' w p _ => ⟨a, c, h2.2, p.2, k _ _ _ (Sg.put (s := im rI (f a c)) (l' := []) i g d w ⟨rfl, rfl⟩ fun _ h => nomatch h)⟩⟩
/-! lists of one's own -/
theorem Sg.chg {σ : L2.St} {F H : Hp} {l : List Addr} (g : SgL F H Γ σ l) (d : Gd b F H l) (hΓ : Γ[i]? = some (some (ow R as))) : ∃ p xs, σ[i]? = some (some (.ref p)) ∧ H p = some (.lst xs) ∧ All2 (R.r F) xs as ∧ ∀ xs' (bs : List β) (S : Rl β), All2 (S.r F) xs' bs → Sg b (Γ.set i (some (ow S bs))) σ F (upd H p (.lst xs')) := by
  obtain ⟨v, l1, h1, ⟨p, xs, rfl, rfl, h4, h5⟩, h6, h7⟩ := g.mod d.nd hΓ
  have hp := h6 p (List.mem_singleton.mpr rfl)
  refine ⟨p, xs, h1, h4, h5, fun xs' bs S h => ⟨l, h7 _ _ (fun a ha => upd_ne fun z => ha (List.mem_singleton.mpr z)) ⟨p, xs', rfl, rfl, upd_same, h⟩, d.ef, Ex.mut d.eb (d.ob p hp), Ex.mut d.e (d.of p hp), d.k, d.nd, d.of, d.ob⟩⟩
theorem HT.frz {sts : List Stmt} (i : Nat) (hΓ : Γ[i]? = some (some (ow R as))) (k : HT X b C (Γ.set i (some (im (rL R) as))) sts) : HT X b C Γ sts := fun σ F H ⟨l, g, d⟩ => by
  obtain ⟨v, l1, h1, ⟨p, xs, rfl, rfl, h4, h5⟩, h6, h7⟩ := g.frz d.nd hΓ
  have hp := h6 p (List.mem_singleton.mpr rfl)
  have fp := d.of p hp
  obtain ⟨l2, k1, k2, k3⟩ := h7 (upd F p (.lst xs)) (im (rL R) as) (Ex.new fp) ⟨rfl, p, xs, rfl, upd_same, h5.imp fun _ _ => R.m (Ex.new fp)⟩
  refine k σ (upd F p (.lst xs)) H ⟨l2, k1, d.ef.trans (Ex.new fp), d.eb, fun a u ha => ?_, fun a q1 q2 => ?_, k2, fun a ha => ?_, fun a ha => d.ob a (k3 a ha).1⟩
  · by_cases z : a = p
    · subst z; rw [upd_same] at ha; rw [h4]; exact ha
    · rw [upd_ne z] at ha; exact d.e a u ha
  · rw [upd_ne fun z => q2 (by rw [z]; exact d.ob p hp)]; exact d.k a q1 q2
  · rw [upd_ne fun z => (k3 a ha).2 (List.mem_singleton.mpr z)]; exact d.of a (k3 a ha).1
theorem HT.append {apos cpos np : Pos} (i : Nat) (hΓ : Γ[i]? = some (some (ow R as))) (he : EV X b Γ e (im R x)) (hz : as.length < 100000) (k : HT X b C (Γ.set i (some (ow R (as ++ [x])))) rest) (hN : X.N[i]? = some n := by rfl) (hv : Vis X.env.scope n := by first | exact Or.inl rfl | exact Or.inr (Or.inl rfl) | exact Or.inr (Or.inr rfl))
    (hd : (n == ("__debug__" : Str)) = false := by decide) (hcd : (n == ("__classdict__" : Str)) = false := by decide) (hse : starEach [e] X.env = (false, eval e X.env) :: starEach [] X.env := by rfl)
    (hbm : ∀ {t : TE} {ta : TA}, PE X (.Name n np) t → PA X [e] ta → PE X (.Call (.Attribute (.Name n np) "append" apos) [e] [] cpos) (tBM X.K "list" rAppend t ta) := by exact fun h1 h2 => pe_bm PySem.F.plainAttrs_list PySem.F.slot_list_append PySem.F.type_list_append mt_append h1 h2)
    (hs : swapsWith (.Call (.Attribute (.Name n np) "append" apos) [e] [] cpos) none pos.line X.env = pure false := by rfl) :
    HT X b C Γ (.Expr (.Call (.Attribute (.Name n np) "append" apos) [e] [] cpos) pos :: rest) :=
  HT.step (ps_expr (hbm (pe_var hN hv hd hcd) (pa_cons pe_w pa_nil hse)) hs) fun σ F H ⟨l, g, d⟩ => by
    obtain ⟨v, l1, h1, ⟨p, xs, rfl, rfl, h4, h5⟩, h6⟩ := g.get hΓ
    refine ⟨_, h1, Or.inl ⟨rfl, xs, SqL.of h4⟩, he σ F H l g d _ fun u F' H' l' w q _ => ?_⟩
    have g' := g.grow w
    obtain ⟨p', xs', k1, k2, k3, k4⟩ := Sg.chg (β := α) g' (d.grow g.t w) hΓ
    rw [h1] at k1
    cases k1
    refine ⟨p, xs', u, rfl, rfl, k2, sz_lt (by rw [k3.len]; exact hz), ?_⟩
    exact k σ F' _ (k4 (xs' ++ [u]) (as ++ [x]) R (k3.app (.cons q.2 .nil)))
/-- xs[k] = e -/
theorem HT.setI {np sp : Pos} {k : Int} {m : Nat} (i : Nat) (hΓ : Γ[i]? = some (some (ow R as))) (he : EV X b Γ e (im R x)) (hk : EV X b Γ e1 (im rI k)) (hm : ixN as.length k = some m) (q : HT X b C (Γ.set i (some (ow R (as.set m x)))) rest) (hN : X.N[i]? = some n := by rfl) (hv : Vis X.env.scope n := by first | exact Or.inl rfl | exact Or.inr (Or.inl rfl) | exact Or.inr (Or.inr rfl))
    (hd : (n == ("__debug__" : Str)) = false := by decide) (hcd : (n == ("__classdict__" : Str)) = false := by decide)
    (ha : ∀ {t t1 t2 : TE}, PE X e t → PE X (.Name n np) t1 → PE X e1 t2 → PS X (.Assign [.Subscript (.Name n np) e1 sp] e pos) (tAsg t (gSub t1 t2 rSetL)) := by exact fun h1 h2 h3 => ps_asg h1 (pg_sub h2 h3 set_list)) :
    HT X b C Γ (.Assign [.Subscript (.Name n np) e1 sp] e pos :: rest) :=
  HT.step (ha pe_w (pe_var hN hv hd hcd) pe_w) fun σ F H ⟨l, g, d⟩ => he σ F H l g d _ fun u F1 H1 l1 w1 p1 _ => by
    obtain ⟨v, l2, h1, ⟨p, xs, rfl, rfl, h4, h5⟩, h6⟩ := (g.grow w1).get hΓ
    have d1 := d.grow g.t w1
    have g1 := g.grow w1
    refine ⟨_, h1, hk σ F1 H1 l g1 d1 _ fun u2 F2 H2 l2 w2 p2 _ => ?_⟩
    obtain ⟨p', xs', k1, k2, k3, k4⟩ := Sg.chg (β := α) (g1.grow w2) (d1.grow g1.t w2) hΓ
    rw [h1] at k1
    cases k1
    exact ⟨p, xs', k, m, rfl, p2.2, k2, by rw [k3.len]; exact hm, q σ F2 _ (k4 _ _ R (All2.set (R.m w2.f p1.2) m k3))⟩
/-- xs[k] += e on ints -/
theorem HT.augI {op : Operator} {f : Int → Int → Int} {is : List Int} {np sp : Pos} {k a c : Int} {m : Nat} (ho : PIp X op (ipI f)) (i : Nat) (hΓ : Γ[i]? = some (some (ow rI is))) (hk : EV X b Γ e1 (im rI k)) (he : EV X b Γ e (im rI c)) (hm : ixN is.length k = some m) (ha : is[m]? = some a) (q : HT X b C (Γ.set i (some (ow rI (is.set m (f a c))))) rest)
    (hN : X.N[i]? = some n := by rfl) (hv : Vis X.env.scope n := by first | exact Or.inl rfl | exact Or.inr (Or.inl rfl) | exact Or.inr (Or.inr rfl)) (hd : (n == ("__debug__" : Str)) = false := by decide) (hcd : (n == ("__classdict__" : Str)) = false := by decide)
    (hg : PGet X (rIxL X.K)) (hau : ∀ ov iv new, augStore e1 ov iv new = (do holding [new, ov, iv] (setItem ov iv new); release [new, ov, iv] []; pure .next) := by intros; rfl) : HT X b C Γ (.AugAssign (.Subscript (.Name n np) e1 sp) op e pos :: rest) :=
  HT.step (ps_augS (pe_var hN hv hd hcd) pe_w hg pe_w ho set_list hau) fun σ F H ⟨l, g, d⟩ => by
    obtain ⟨v, l2, h1, ⟨p, xs, rfl, rfl, h4, h5⟩, h6⟩ := g.get hΓ
    refine ⟨_, h1, hk σ F H l g d _ fun u1 F1 H1 l1 w1 p1 _ => ?_⟩
    have d1 := d.grow g.t w1
    have g1 := g.grow w1
    obtain ⟨x0, hx0, rx0⟩ := h5.get ha
    have hx0' : atI xs k = some x0 := by unfold atI; rw [h5.len, hm]; exact hx0
    refine ⟨p, xs, k, x0, rfl, p1.2, SqL.of (w1.h p _ h4), hx0', he σ F1 H1 l g1 d1 _ fun u2 F2 H2 l2 w2 p2 _ => ?_⟩
    refine ⟨a, c, rx0, p2.2, ?_⟩
    obtain ⟨p', xs', k1, k2, k3, k4⟩ := Sg.chg (β := Int) (g1.grow w2) (d1.grow g1.t w2) hΓ
    rw [h1] at k1
    cases k1
    exact ⟨p, xs', k, m, rfl, p1.2, k2, by rw [k3.len]; exact hm, q σ F2 _ (k4 _ _ rI (All2.set (p := rI.r F2) rfl m k3))⟩
end
end Lg

namespace Lg
open PySem L2 Evl PyProof.Rows
theorem get_list {X : Cx} : PGet X (rIxL X.K) := by
  intro pins s σ H x y v u Q I rx ry h
  obtain ⟨p, xs, i, z, rfl, rfl, hq, he, q⟩ := h
  cases rx
  obtain ⟨t, rfl⟩ := ry
  obtain ⟨its, r, pl, hz⟩ := I.list hq
  obtain ⟨j, h1, h2, h3, h4, h5⟩ := atI_get he
  obtain ⟨w, ew, rw'⟩ := r.get h2
  have hl := r.length
  have hn := line63
  have fin : EP X pins σ Q w s := ⟨z, H, I, rw', q⟩
  by_cases h0 : 0 ≤ i
  · have hj : i.toNat = j := by
      rw [seqIndex_of h0 h5] at h1
      exact Option.some.inj h1
    exact wpAny_getItem_list pl.isList h0 (by omega) (by rw [hj]; simpa using ew) fin
  · have hj : (i + (its.toArray.size : Int)).toNat = j := by
      rw [seqIndex_neg (by omega) h4] at h1
      rw [List.size_toArray, ← hl]
      exact Option.some.inj h1
    exact wpAny_getItem_list_neg pl.isList (by omega) (by rw [List.size_toArray] <;> omega) (by omega) (by rw [hj]; simpa using ew) fin
/-! ### what is walked -/
/-- J gives n items, the i-th as IR i tells it -/
def ItOk (J : It) (F1 : Hp) (n : Nat) (IR : Nat → Im → Prop) : Prop := ∃ (G : Hp → Prop) (Y : Nat → Hp → V → Hp → Prop), Walk J n G Y ∧ (∀ F' H', Ex F1 F' → Ex F' H' → G H') ∧
  ∀ i F' H' v H'', i < n → Ex F1 F' → Ex F' H' → Y i H' v H'' → ∃ F'' y, Gw F' H' F'' H'' ∧ IR i y ∧ y.R.r F'' v y.a
def IV (X : Cx) (b : Bs) (Γ : Ctx) (tg iter : Expr) (n : Nat) (IR : Nat → Im → Prop) : Prop := ∃ wi, PI X tg iter wi ∧ ∀ σ F H l, SgL F H Γ σ l → Gd b F H l → ∀ R : It → Hp → Prop, (∀ J F1 H1, Gw F H F1 H1 → ItOk J F1 n IR → R J H1) → wi σ H R
/-- items of a list -/
def IL {α : Type} (R : Rl α) (as : List α) : Nat → Im → Prop := fun i y => ∃ a, as[i]? = some a ∧ y = mk R a
def IRg (lo : Int) : Nat → Im → Prop := fun i y => y = mk rI (lo + (i : Int))
def IRz : Nat → Im → Prop := fun i y => y = mk rI (i : Int)
def IEn {α : Type} (R : Rl α) (as : List α) : Nat → Im → Prop := fun i y => ∃ a, as[i]? = some a ∧ y = mk (rP rI R) ((i : Int), a)
def IZp {α β : Type} (R : Rl α) (S : Rl β) (as : List α) (bs : List β) : Nat → Im → Prop := fun i y => ∃ a c, as[i]? = some a ∧ bs[i]? = some c ∧ y = mk (rP R S) (a, c)
section
variable {X : Cx} {b : Bs} {Γ : Ctx} {e e1 e2 tg : Expr} {α β : Type} {R : Rl α} {S : Rl β} {as : List α} {bs : List β} {i j : Int} {p pos : Pos}
theorem IV.list (h : EV X b Γ e (im (rL R) as)) : IV X b Γ tg e as.length (IL R as) := ⟨_, pi_list pe_w, fun σ F H l g d Q q => h σ F H l g d _ fun v F1 H1 l1 w ⟨_, a, xs, h1, h2, h3⟩ _ =>
  ⟨a, h1, ⟨xs, SqL.of (w.e a _ h2)⟩, q _ F1 H1 w (by
    rw [← h3.len]
    refine ⟨_, _, walk_list, fun F' H' e1 e2 => SqL.of (e2 a _ (e1 a _ h2)), fun i F' H' v H'' hi e1 e2 y => ?_⟩
    obtain ⟨rfl, hy⟩ := y
    obtain ⟨a0, k1, k2⟩ := h3.getV hy
    exact ⟨F', mk R a0, Gw.refl e2, ⟨a0, k1, rfl⟩, R.m e1 k2⟩)⟩⟩
theorem IV.tup (h : EV X b Γ e (im (rT R) as)) : IV X b Γ tg e as.length (IL R as) := ⟨_, pi_tup pe_w, fun σ F H l g d Q q => h σ F H l g d _ fun v F1 H1 l1 w ⟨_, a, xs, h1, h2, h3⟩ _ =>
  ⟨a, h1, ⟨xs, SqT.of (w.e a _ h2)⟩, q _ F1 H1 w (by
    rw [← h3.len]
    refine ⟨_, _, walk_tup, fun F' H' e1 e2 => SqT.of (e2 a _ (e1 a _ h2)), fun i F' H' v H'' hi e1 e2 y => ?_⟩
    obtain ⟨rfl, hy⟩ := y
    obtain ⟨a0, k1, k2⟩ := h3.getV hy
    exact ⟨F', mk R a0, Gw.refl e2, ⟨a0, k1, rfl⟩, R.m e1 k2⟩)⟩⟩
theorem ims1 {F : Hp} {vs : List V} {x : Im} (h : Ims F vs [x]) : ∃ v, vs = [v] ∧ x.R.r F v x.a := by
  cases h with
  | cons h1 h2 => cases h2; exact ⟨_, rfl, h1⟩
theorem ims2 {F : Hp} {vs : List V} {x y : Im} (h : Ims F vs [x, y]) : ∃ v w, vs = [v, w] ∧ x.R.r F v x.a ∧ y.R.r F w y.a := by
  cases h with
  | cons h1 h2 =>
    obtain ⟨w, rfl, h3⟩ := ims1 h2
    exact ⟨_, _, rfl, h1, h3⟩
theorem IV.rng1 (h : AV X b Γ [e] [mk rI j]) (hj : -(2 ^ 62) ≤ j ∧ j < 2 ^ 62) (hm : X.mg "range" = none) (hg : Gl X "range" := by rfl) (hs : starEach [e] X.env = [(false, eval e X.env)] := by rfl) : IV X b Γ tg (.Call (.Name "range" p) [e] [] pos) j.toNat IRz := by
  obtain ⟨ta, h1, h2⟩ := h
  refine ⟨_, pi_range1 hg hm h1 hs, fun σ F H l g d Q q => h2 σ F H l g d _ fun vs F1 H1 w k => ?_⟩
  obtain ⟨v, rfl, hv⟩ := ims1 k
  refine ⟨j, by rw [show v = V.int j from hv], hj.1, hj.2, q _ F1 H1 w ⟨_, _, walk_range, fun _ _ _ _ => trivial, fun i F' H' v H'' hi e1 e2 y => ?_⟩⟩
  obtain ⟨rfl, rfl⟩ := y
  exact ⟨F', mk rI (i : Int), Gw.refl e2, rfl, congrArg V.int (Int.zero_add _)⟩
theorem IV.rng2 (h : AV X b Γ [e1, e2] [mk rI i, mk rI j]) (hi : -(2 ^ 62) ≤ i ∧ i < 2 ^ 62) (hj : -(2 ^ 62) ≤ j ∧ j < 2 ^ 62) (hm : X.mg "range" = none) (hg : Gl X "range" := by rfl) (hs : starEach [e1, e2] X.env = [(false, eval e1 X.env), (false, eval e2 X.env)] := by rfl)
    (hs2 : starEach [e2] X.env = [(false, eval e2 X.env)] := by rfl) : IV X b Γ tg (.Call (.Name "range" p) [e1, e2] [] pos) (j - i).toNat (IRg i) := by
  obtain ⟨ta, h1, h2⟩ := h
  refine ⟨_, pi_range2 hg hm h1 hs hs2, fun σ F H l g d Q q => h2 σ F H l g d _ fun vs F1 H1 w k => ?_⟩
  obtain ⟨v, u, rfl, hv, hu⟩ := ims2 k
  refine ⟨i, j, by rw [show v = V.int i from hv, show u = V.int j from hu], ⟨hi.1, hi.2, hj.1, hj.2⟩, q _ F1 H1 w ⟨_, _, walk_range, fun _ _ _ _ => trivial, fun i F' H' v H'' hi e1 e2 y => ?_⟩⟩
  obtain ⟨rfl, rfl⟩ := y
  exact ⟨F', _, Gw.refl e2, rfl, rfl⟩
theorem IV.enum {elts : List Expr} {kk : Nat} {tpos : Pos} (h : AV X b Γ [e] [mk (rL R) as]) (hm : X.mg "enumerate" = none) (hg : Gl X "enumerate" := by rfl) (hs : starEach [e] X.env = [(false, eval e X.env)] := by rfl) :
    IV X b Γ (.Tuple elts kk tpos) (.Call (.Name "enumerate" p) [e] [] pos) as.length (IEn R as) := by
  obtain ⟨ta, h1, h2⟩ := h
  refine ⟨_, pi_enum hg hm h1 hs, fun σ F H l g d Q q => h2 σ F H l g d _ fun vs F1 H1 w k => ?_⟩
  obtain ⟨v, rfl, a, xs, rfl, hp, hx⟩ := ims1 k
  refine ⟨a, xs, rfl, SqL.of (w.e a _ hp), q _ F1 H1 w (by
    have hl := hx.len
    rw [show as.length = xs.length from hl.symm]
    refine ⟨_, _, walk_enum, fun F' H' e1 e2 => SqL.of (e2 a _ (e1 a _ hp)), fun i F' H' v H'' hi e1 e2 y => ?_⟩
    obtain ⟨T, x, y, rfl, hT, rfl, k1, k2⟩ := y
    cases k1
    obtain ⟨a0, z1, z2⟩ := All2.getV hx k2
    exact ⟨_, mk (rP rI R) ((i : Int), a0), Gw.new e2 hT, ⟨a0, z1, rfl⟩, T, _, _, rfl, upd_same, rfl, R.m (e1.trans (Ex.new (ex_none e2 hT))) z2⟩)⟩
theorem IV.zip {elts : List Expr} {kk : Nat} {tpos : Pos} (h : AV X b Γ [e1, e2] [mk (rL R) as, mk (rL S) bs]) (hl : as.length = bs.length) (hm : X.mg "zip" = none) (hg : Gl X "zip" := by rfl) (hs : starEach [e1, e2] X.env = (false, eval e1 X.env) :: starEach [e2] X.env := by rfl)
    (hpl : (backTo pos (starEach [e2] X.env)).any (·.1) = false := by rfl) : IV X b Γ (.Tuple elts kk tpos) (.Call (.Name "zip" p) [e1, e2] [] pos) as.length (IZp R S as bs) := by
  obtain ⟨ta, h1, h2⟩ := h
  refine ⟨_, pi_zip hg hm h1 hs hpl, fun σ F H l g d Q q => h2 σ F H l g d _ fun vs F1 H1 w k => ?_⟩
  obtain ⟨v, u, rfl, ⟨a, xs, rfl, hp, hx⟩, ⟨c, ys, rfl, hp', hy⟩⟩ := ims2 k
  refine ⟨a, c, xs, ys, rfl, SqL.of (w.e a _ hp), SqL.of (w.e c _ hp'), q _ F1 H1 w (by
    have hlx : xs.length = as.length := hx.len
    have hly : ys.length = bs.length := hy.len
    refine ⟨_, _, walk_zip (xs := xs) (ys := ys) (n := as.length) (by omega), fun F' H' e1 e2 => ⟨SqL.of (e2 a _ (e1 a _ hp)), SqL.of (e2 c _ (e1 c _ hp'))⟩, fun i F' H' v H'' hi e1 e2 y => ?_⟩
    obtain ⟨T, x, y, rfl, hT, rfl, k1, k2⟩ := y
    obtain ⟨a0, z1, z2⟩ := All2.getV hx k1
    obtain ⟨c0, z3, z4⟩ := All2.getV hy k2
    have ee := e1.trans (Ex.new (o := HO.tup [x, y]) (ex_none e2 hT))
    exact ⟨_, mk (rP R S) (a0, c0), Gw.new e2 hT, ⟨a0, c0, z1, z3, rfl⟩, T, _, _, rfl, upd_same, R.m ee z2, S.m ee z4⟩)⟩
end
/-! ### targets -/
def wG (X : Cx) (tg : Expr) : TG := fun v σ H Q => ∀ pins s u, Inv X pins σ H s → RelV v u → wpAny (model X.prog X.w) X.A (assign tg X.env u) (fun _ s' => ∃ σ' H', Inv X pins σ' H' s' ∧ Q σ' H') X.xe s
theorem pg_w {X : Cx} {tg : Expr} : PG X tg (wG X tg) := ⟨fun pins s σ H v u Q I r h => h pins s u I r⟩
theorem wG.of {X : Cx} {tg : Expr} {g : TG} {v : V} {σ : L2.St} {H : Hp} {Q : L2.St → Hp → Prop} (h : PG X tg g) (q : g v σ H Q) : wG X tg v σ H Q := fun pins s u I r => h.run pins s σ H v u Q I r q
/-- y is stored to the target: Γ' behind -/
def GvS (b : Bs) (Γ : Ctx) (g : TG) (y : Im) (Γ' : Ctx) : Prop := ∀ σ F H v, Sg b Γ σ F H → y.R.r F v y.a → ∀ Q : L2.St → Hp → Prop, (∀ σ', Sg b Γ' σ' F H → Q σ' H) → g v σ H Q
def GV (X : Cx) (b : Bs) (Γ : Ctx) (tg : Expr) (y : Im) (Γ' : Ctx) : Prop := ∃ g, PG X tg g ∧ GvS b Γ g y Γ'
/-- several -/
def GsS (b : Bs) (Γ : Ctx) (g : TGs) (ys : List Im) (Γ' : Ctx) : Prop := ∀ σ F H vs, Sg b Γ σ F H → Ims F vs ys → ∀ Q : L2.St → Hp → Prop, (∀ σ', Sg b Γ' σ' F H → Q σ' H) → g vs σ H Q
def GsV (X : Cx) (b : Bs) (Γ : Ctx) (tgs : List Expr) (ys : List Im) (Γ' : Ctx) : Prop := ∃ g, PGs X tgs g ∧ GsS b Γ g ys Γ'
section
variable {X : Cx} {b : Bs} {C : EndC} {Γ Γ' Γ'' : Ctx} {e tg : Expr} {y : Im} {ys : List Im} {α β γ : Type} {R : Rl α} {S : Rl β} {T : Rl γ} {x : α} {z : β} {as : List α} {n : Str} {p pos : Pos} {rest bd : List Stmt}
theorem Sg.put0 {σ : L2.St} {F H : Hp} {v : V} {s : Sl} (i : Nat) (g : Sg b Γ σ F H) (p : s.P F H v []) : Sg b (Γ.set i (some s)) (σ.set i (some v)) F H := by
  obtain ⟨l, g, d⟩ := g
  exact Sg.put i g d (Gw.refl d.e) p fun _ h => nomatch h
theorem GV.name (i : Nat) (nd : X.N.Nodup) (hi : X.N[i]? = some n := by rfl) (hx : Loc X.env.scope n := by first | exact Or.inl rfl | exact Or.inr rfl) (hf : X.fn n = true ∨ X.env.scope.names.lookup n = some .local := by first | exact .inl rfl | exact .inr rfl | assumption) :
    GV X b Γ (.Name n pos) (mk R x) (Γ.set i (some (im R x))) := ⟨_, pg_name nd hi hx hf, fun σ F H v g hv Q q => q _ (Sg.put0 i g ⟨rfl, hv⟩)⟩
theorem GsV.nil : GsV X b Γ [] [] Γ := ⟨_, pgs_nil, fun σ F H vs g h Q q => by cases h; exact ⟨rfl, q σ g⟩⟩
theorem GsV.cons {es : List Expr} (h : GV X b Γ e y Γ') (k : GsV X b Γ' es ys Γ'') (hs : ∀ {t u}, PG X e t → PGs X es u → PGs X (e :: es) (gCons t u) := by exact fun h1 h2 => pgs_cons h1 h2) : GsV X b Γ (e :: es) (y :: ys) Γ'' := by
  obtain ⟨g1, p1, k1⟩ := h
  obtain ⟨g2, p2, k2⟩ := k
  refine ⟨_, hs p1 p2, fun σ F H vs g hv Q q => ?_⟩
  cases hv with
  | cons h1 h2 => exact ⟨_, _, rfl, k1 σ F H _ g h1 _ fun σ' g' => k2 σ' F H _ g' h2 Q q⟩
theorem Ims.ofAll {F : Hp} : ∀ {vs : List V} {as : List α}, All2 (R.r F) vs as → Ims F vs (as.map (mk R))
  | _, _, .nil => .nil
  | _, _, .cons u h => .cons (x := mk R _) u (Ims.ofAll h)
theorem GV.tup {es : List Expr} {kk : Nat} (h : GsV X b Γ es (as.map (mk R)) Γ') (hs : ∀ {t : TGs}, PGs X es t → PG X (.Tuple es kk pos) (gTup X.K as.length t) := by exact fun h => pg_tup (by rfl) h) : GV X b Γ (.Tuple es kk pos) (mk (rT R) as) Γ' := by
  obtain ⟨g1, p1, k1⟩ := h
  refine ⟨_, hs p1, fun σ F H v g ⟨a, xs, h1, h2, h3⟩ Q q => ⟨a, xs, h1, ?_, h3.len, k1 σ F H xs g (Ims.ofAll h3) Q q⟩⟩
  obtain ⟨l, g, d⟩ := g
  exact SqT.of (d.e a _ h2)
theorem GV.pair {es : List Expr} {kk : Nat} {c : α × β} (h : GsV X b Γ es [mk R c.1, mk S c.2] Γ') (hs : ∀ {t : TGs}, PGs X es t → PG X (.Tuple es kk pos) (gTup X.K 2 t) := by exact fun h => pg_tup (by rfl) h) : GV X b Γ (.Tuple es kk pos) (mk (rP R S) c) Γ' := by
  obtain ⟨g1, p1, k1⟩ := h
  refine ⟨_, hs p1, fun σ F H v g ⟨a, u, w, h1, h2, h3, h4⟩ Q q => ⟨a, _, h1, ?_, rfl, k1 σ F H _ g (.cons h3 (.cons h4 .nil)) Q q⟩⟩
  obtain ⟨l, g, d⟩ := g
  exact SqT.of (d.e a _ h2)
/-- target = e -/
theorem HT.asg (he : EV X b Γ e (im R x)) (h : GV X b Γ tg (mk R x) Γ') (k : HT X b C Γ' rest) (hs : swapsWithSole [tg] e pos.line X.env = pure false := by rfl) (hw : swappedStores [tg] e X.env = pure none := by rfl)
    (h1 : (assignEach [tg] X.env).map (·.2) = [assign tg X.env] := by rfl) : HT X b C Γ (.Assign [tg] e pos :: rest) := by
  obtain ⟨g1, p1, k1⟩ := h
  exact HT.step (ps_asg pe_w p1 hs hw h1) fun σ F H ⟨l, g, d⟩ => he σ F H l g d _ fun v F' H' l' w p _ => k1 σ F' H' v ⟨l, g.grow w, d.grow g.t w⟩ p.2 _ fun σ' g' => k σ' F' H' g'
/-- the base taken further up -/
structure Up (b b' : Bs) : Prop where
  B : b'.B = b.B
  f : Ex b.F b'.F
  k : ∀ a, b.F a = none → b.B a ≠ none → b'.F a = none
theorem Up.gd {b' : Bs} {F H : Hp} {l : List Addr} (u : Up b b') (d : Gd b' F H l) : Gd b F H l :=
  ⟨u.f.trans d.ef, u.B ▸ d.eb, d.e, fun a h1 h2 => d.k a (u.k a h1 h2) (u.B ▸ h2), d.nd, d.of, fun a ha => u.B ▸ d.ob a ha⟩
theorem Up.sg {b' : Bs} {F H : Hp} {σ : L2.St} (u : Up b b') (g : Sg b' Γ σ F H) : Sg b Γ σ F H := let ⟨l, g, d⟩ := g; ⟨l, g, u.gd d⟩
theorem Up.at {b' : Bs} {H : Hp} {σ : L2.St} {P : Ctx → Prop} (u : Up b b') (h : At b' P σ H) : At b P σ H := let ⟨Γ, F, g, p⟩ := h; ⟨Γ, F, u.sg g, p⟩
theorem Up.rt {b' : Bs} {H : Hp} {v : V} {P : Sl → Prop} (u : Up b b') (h : Rt b' P v H) : Rt b P v H := let ⟨s, F, l, p, d, q⟩ := h; ⟨s, F, l, p, u.gd d, q⟩
theorem Gd.up {F H : Hp} {l : List Addr} (d : Gd b F H l) : Up b ⟨F, b.B⟩ := ⟨rfl, d.ef, d.k⟩
theorem Gd.self {F H : Hp} {l : List Addr} (d : Gd b F H l) : Gd ⟨F, b.B⟩ F H l := ⟨Ex.refl F, d.eb, d.e, fun _ h _ => h, d.nd, d.of, d.ob⟩
/-- a loop: Inv by the turn and the slots -/
theorem HT.for {iter : Expr} {m : Nat} {IR : Nat → Im → Prop} (hi : IV X b Γ tg iter m IR) (Inv : Nat → Ctx → Prop) (h0 : Inv 0 Γ)
    (hs : ∀ b' i y Γ', b'.B = b.B → i < m → IR i y → Inv i Γ' → ∃ Γ'', GV X b' Γ' tg y Γ'' ∧ HT X b' { C with nx := Inv (i + 1), ct := Inv (i + 1), bk := fun Γ => HT X b C Γ rest } Γ'' bd) (hd : ∀ Γ', Inv m Γ' → HT X b C Γ' rest)
    (hp : PassesOwn (model X.prog X.w) X.A X.env X.xe) (hc : X.calm = true := by rfl) (hf : ∀ x, foldedSetIterable iter X.env x = pure x := by intro _; rfl) : HT X b C Γ (.For tg iter bd [] pos :: rest) := by
  obtain ⟨wi, p1, k1⟩ := hi
  refine HT.step (ps_for hp hc p1 pg_w pss_w hf) fun σ F H ⟨l, g, d⟩ => k1 σ F H l g d _ fun J F1 H1 w ⟨G, Y, W, hG, hY⟩ => ?_
  have d1 := d.grow g.t w
  have u1 := d1.up
  refine for_it W (fun i σ' H' => At ⟨F1, b.B⟩ (Inv i) σ' H') ⟨Γ, F1, ⟨l, g.grow w, d1.self⟩, h0⟩ (fun i σ' H' _ ⟨Γ', F', ⟨l', g', d'⟩, _⟩ => hG F' H' d'.ef d'.e) (fun i v σ' H' H'' hi ⟨Γ', F', ⟨l', g', d'⟩, iv⟩ y => ?_) (fun σ' H' ⟨Γ', F', g', iv⟩ => hd Γ' iv σ' F' H' (u1.sg g'))
  obtain ⟨F'', y0, w', r1, r2⟩ := hY i F' H' v H'' hi d'.ef d'.e y
  have d2 := d'.grow g'.t w'
  obtain ⟨Γ'', ⟨g0, q1, q2⟩, q3⟩ := hs ⟨F'', b.B⟩ i y0 Γ' rfl hi r1 iv
  have u2 : Up ⟨F1, b.B⟩ ⟨F'', b.B⟩ := d2.up
  refine wG.of q1 (q2 σ' F'' H'' v ⟨l', g'.grow w', d2.self⟩ r2 _ fun σ2 g2 => ?_)
  refine wS.mono (q3 σ2 F'' H'' g2) (fun _ _ h => u2.at h) (fun _ _ h => u1.rt (u2.rt h)) (fun σ3 H3 h => ?_) (fun _ _ h => u2.at h)
  obtain ⟨Γ3, F3, g3, h3⟩ := h
  exact h3 σ3 F3 H3 (u1.sg (u2.sg g3))
end
end Lg

namespace Lg
open PySem L2 Evl PyProof.Rows
/-! ### comprehensions -/
def wEb (X : Cx) (scope : Scope) (e : Expr) : TE := fun σ H Q => ∀ (s : Shared) (H0 : Hp) (C : Addr) (cl : List (Str × Addr)) (fp : List Addr), wE (X.blk s H0 scope (compEnvC scope cl C X.env) fp) e σ H Q
def wTb (X : Cx) (scope : Scope) (e : Expr) : TT := fun σ H Q => ∀ (s : Shared) (H0 : Hp) (C : Addr) (cl : List (Str × Addr)) (fp : List Addr), wT (X.blk s H0 scope (compEnvC scope cl C X.env) fp) e σ H Q
section
variable {X : Cx} {b : Bs} {Γ Γ' : Ctx} {e e1 e2 elt iter : Expr} {α β γ : Type} {R : Rl α} {S : Rl γ} {as : List α} {scope : Scope} {n : Str} {np pos : Pos} {j m : Nat} {IR : Nat → Im → Prop}
theorem pe_wb {s : Shared} {H0 : Hp} {C : Addr} {cl : List (Str × Addr)} {fp : List Addr} : PE (X.blk s H0 scope (compEnvC scope cl C X.env) fp) e (wEb X scope e) := ⟨fun pins s' _ _ _ I h => h s H0 C cl fp pins s' I⟩
theorem pt_wb {s : Shared} {H0 : Hp} {C : Addr} {cl : List (Str × Addr)} {fp : List Addr} : PT (X.blk s H0 scope (compEnvC scope cl C X.env) fp) e (wTb X scope e) := ⟨fun pins s' _ _ _ I h => h s H0 C cl fp pins s' I⟩
/-- a comprehension: as a value, and stored to a local name -/
def LV (X : Cx) (b : Bs) (Γ : Ctx) (e : Expr) (s : Sl) : Prop := ∃ te, PE X e te ∧ EvS b Γ te s ∧ ∀ (i : Nat) (y : Str) (py spos : Pos), X.N[i]? = some y → X.env.scope.names.lookup y = some .local → swapsWith e (some (.Name y py)) spos.line X.env = pure true → PS X (.Assign [.Name y py] e spos) (tAsg te (gName i))
theorem LV.ev {s : Sl} (h : LV X b Γ e s) : EV X b Γ e s := by
  obtain ⟨te, h1, h2, _⟩ := h
  exact EV.of h1 h2
theorem HT.setC {D : EndC} {s : Sl} {y : Str} {py spos : Pos} {rest : List Stmt} (i : Nat) (h : LV X b Γ e s) (k : HT X b D (Γ.set i (some s)) rest) (hsw : swapsWith e (some (.Name y py)) spos.line X.env = pure true) (hi : X.N[i]? = some y := by rfl) (hy : X.env.scope.names.lookup y = some .local := by rfl) : HT X b D Γ (.Assign [.Name y py] e spos :: rest) := by
  obtain ⟨te, _, h2, h3⟩ := h
  exact HT.step (h3 i y py spos hi hy hsw) fun σ F H ⟨l, g, d⟩ => h2 σ F H l g d _ fun v F' H' l' w p f => k _ _ _ (Sg.put i g d w p f)
/-- what stands in a comprehension's turn -/
structure Cv (b : Bs) (F1 H1 : Hp) (Γ : Ctx) (σ : L2.St) (D : Addr) (l : List Addr) (F' H' : Hp) : Prop where
  g : SgL F' H' Γ σ l
  d : Gd ⟨F1, b.B⟩ F' H' l
  w : Gw F1 H1 F' H'
  nl : D ∉ l
  nB : b.B D = none
  nF : F' D = none
  nH : H1 D = none
theorem Cv.grow {F1 H1 F' H' F2 H2 : Hp} {σ : L2.St} {D : Addr} {l : List Addr} (c : Cv b F1 H1 Γ σ D l F' H') (hD : H' D ≠ none) (w : Gw F' H' F2 H2) : Cv b F1 H1 Γ σ D l F2 H2 :=
  ⟨c.g.grow w, c.d.grow c.g.t w, c.w.trans w, c.nl, c.nB, w.k D c.nF hD, c.nH⟩
theorem Cv.upd {F1 H1 F' H' : Hp} {σ : L2.St} {D : Addr} {l : List Addr} {o : HO} (c : Cv b F1 H1 Γ σ D l F' H') : Cv b F1 H1 Γ σ D l F' (upd H' D o) :=
  ⟨SgL.m (Ex.refl F') (fun a ha => upd_ne fun z => c.nl (z ▸ ha)) c.g, ⟨c.d.ef, Ex.mut c.d.eb c.nB, Ex.mut c.d.e c.nF, c.d.k, c.d.nd, c.d.of, c.d.ob⟩, ⟨c.w.f, Ex.mut c.w.h c.nH, Ex.mut c.w.e c.nF, c.w.k⟩, c.nl, c.nB, c.nF, c.nH⟩
theorem wipe1 {σ : L2.St} {j : Nat} : wipe σ [j] = σ.set j none := rfl
theorem LV.lcG (out : Nat → Option γ) {ifs : List Expr} {tt : TT} (hi : IV X b Γ (.Name n np) iter m IR) (nd : X.N.Nodup) (ok : blkC X.N X.env.scope scope [(n, j)] = true) (hm : m ≤ 100000) (hp : ∀ (s : Shared) (H0 : Hp) (C : Addr) (cl : List (Str × Addr)) (fp : List Addr), PTs (X.blk s H0 scope (compEnvC scope cl C X.env) fp) ifs tt)
    (ht : ∀ b' i y, b'.B = b.B → i < m → IR i y → TvS b' ((Γ.set j none).set j (some (im y.R y.a))) tt (out i).isSome)
    (he : ∀ b' i y s H0 C cl fp z, b'.B = b.B → i < m → IR i y → out i = some z → EV (X.blk s H0 scope (compEnvC scope cl C X.env) fp) b' ((Γ.set j none).set j (some (im y.R y.a))) elt (im S z))
    (hg : ∀ (s : Shared) (H0 : Hp) (C : Addr) (cl : List (Str × Addr)) (fp : List Addr), PG (X.blk s H0 scope (compEnvC scope cl C X.env) fp) (.Name n np) (gName j)) (hc : X.calm = true) (hf : ∀ x, foldedSetIterable iter X.env x = pure x) :
    LV X b Γ (.ListComp elt [⟨.Name n np, iter, ifs, 0⟩] scope pos) (ow S ((List.range m).filterMap out)) := by
  obtain ⟨wi, p1, k1⟩ := hi
  refine ⟨_, pe_lc (own := [(n, j)]) (g := gName j) (tt := tt) (te := wEb X scope elt) hc nd p1 (blkOk_by ok) hg hp (fun _ _ _ _ _ => pe_wb) hf, fun σ F H l g d Q q => ?_, fun i y py spos hi hy hsw => ps_setLc (own := [(n, j)]) (g := gName j) (tt := tt) (te := wEb X scope elt) hc nd hi hy hsw p1 (blkOk_by ok) hg hp (fun _ _ _ _ _ => pe_wb) hf⟩
  refine k1 σ F H l g d _ fun J F1 H1 w ⟨G, Y, W, hG, hY⟩ D hD => ?_
  have d1 := d.grow g.t w
  have g1 := g.grow w
  obtain ⟨l2, g2, nd2, sub2⟩ := SgL.put (o' := none) (w := none) (l' := []) trivial List.nodup_nil j g1 d1.nd (fun _ h => nomatch h)
  have sub2 : ∀ a ∈ l2, a ∈ l := fun a ha => by
    rcases sub2 a ha with z | z
    · exact z
    · cases z
  have d2 : Gd ⟨F1, b.B⟩ F1 H1 l2 := d1.self.of_l nd2 fun a ha => ⟨d1.of a (sub2 a ha), d1.ob a (sub2 a ha)⟩
  have nB : b.B D = none := ex_none d1.eb hD
  have nF : F1 D = none := ex_none d1.e hD
  have nl : D ∉ l2 := fun z => g1.t D (sub2 D z) hD
  have c0 : Cv b F1 H1 (Γ.set j none) (σ.set j none) D l2 F1 (upd H1 D (.lst [])) := Cv.upd ⟨g2, d2, Gw.refl d1.e, nl, nB, nF, hD⟩
  show ∃ W : Nat → Nat → Hp → Prop, _
  refine lc_it W (fun i H' => ∃ F' acc, Cv b F1 H1 (Γ.set j none) (σ.set j none) D l2 F' H' ∧ H' D = some (.lst acc) ∧ All2 (S.r F') acc ((List.range i).filterMap out) ∧ i ≤ m) ⟨F1, [], c0, upd_same, .nil, Nat.zero_le _⟩ (fun i H' _ ⟨F', acc, c, _, _, _⟩ => hG F' H' c.d.ef c.d.e)
    (fun i v H' H'' hi ⟨F', acc, c, ha, hall, hm'⟩ y => ?_) (fun H' ⟨F', acc, c, ha, hall, _⟩ => q (.ref D) F' H' [D] (w.trans c.w) ⟨D, acc, rfl, rfl, ha, hall⟩ fun a h => by rw [List.mem_singleton.mp h]; exact ⟨ex_none w.h hD, c.nF⟩)
  obtain ⟨F'', y0, w', r1, r2⟩ := hY i F' H' v H'' hi c.d.ef c.d.e y
  have hDn : H' D ≠ none := by rw [ha]; exact fun z => nomatch z
  have c2 := c.grow hDn w'
  have ha2 : H'' D = some (.lst acc) := w'.h D _ ha
  show wipe ((σ.set j none).set j (some v)) [j] = wipe σ [j] ∧ tt ((σ.set j none).set j (some v)) H'' fun b H3 => _
  refine ⟨by rw [wipe1, wipe1, List.set_set, List.set_set], ?_⟩
  obtain ⟨l3, g3, nd3, sub3⟩ := SgL.put (o' := some (im y0.R y0.a)) (w := some v) (l' := []) ⟨v, rfl, rfl, r2⟩ List.nodup_nil j c2.g c2.d.nd (fun _ h => nomatch h)
  have sub3 : ∀ a ∈ l3, a ∈ l2 := fun a ha => by
    rcases sub3 a ha with z | z
    · exact z
    · cases z
  have d3 : Gd ⟨F1, b.B⟩ F'' H'' l3 := c2.d.of_l nd3 fun a ha => ⟨c2.d.of a (sub3 a ha), c2.d.ob a (sub3 a ha)⟩
  refine ht ⟨F1, b.B⟩ i y0 rfl hi r1 _ F'' H'' l3 g3 d3 _ fun F3 H3 w3 => ?_
  have hD2 : H'' D ≠ none := by rw [ha2]; exact fun z => nomatch z
  have c3 := c2.grow hD2 w3
  cases ho : out i with
  | none =>
    refine ⟨F3, acc, c3, w3.h D _ ha2, ?_, hi⟩
    rw [List.range_succ, List.filterMap_append]
    simp only [List.filterMap_cons, ho, List.filterMap_nil, List.append_nil]
    exact hall.imp fun _ _ => S.m (w'.f.trans w3.f)
  | some z =>
    intro s H0 C cl fp
    refine he ⟨F1, b.B⟩ i y0 s H0 C cl fp z rfl hi r1 ho _ F3 H3 l3 (g3.grow w3) (d3.grow g3.t w3) _ fun u F4 H4 l4 w4 p4 _ => ?_
    have hD3 : H3 D ≠ none := by rw [w3.h D _ ha2]; exact fun z => nomatch z
    have c4 := c3.grow hD3 w4
    have a4 := w4.h D _ (w3.h D _ ha2)
    have all4 : All2 (S.r F4) acc ((List.range i).filterMap out) := hall.imp fun _ _ => S.m ((w'.f.trans w3.f).trans w4.f)
    have hl : acc.length ≤ i := by
      rw [hall.len]
      refine Nat.le_trans (List.length_filterMap_le _ _) ?_
      rw [List.length_range]; omega
    refine ⟨acc, a4, sz_lt (by omega), F4, acc ++ [u], c4.upd, upd_same, ?_, hi⟩
    rw [List.range_succ, List.filterMap_append]
    simp only [List.filterMap_cons, ho, List.filterMap_nil]
    exact all4.app (.cons p4.2 .nil)
theorem TvS.blk {c : Bool} (h : ∀ (s : Shared) (H0 : Hp) (C : Addr) (cl : List (Str × Addr)) (fp : List Addr), TV (X.blk s H0 scope (compEnvC scope cl C X.env) fp) b Γ e c) : TvS b Γ (wTb X scope e) c := fun σ F H l g d Q q s H0 C cl fp => h s H0 C cl fp σ F H l g d Q q
theorem TvS.yes : TvS b Γ tYes true := fun σ F H l g d Q q => q F H (Gw.refl d.e)
theorem fm_congr {α β : Type} {f g : α → Option β} : ∀ {l : List α}, (∀ a ∈ l, f a = g a) → l.filterMap f = l.filterMap g
  | [], _ => rfl
  | a :: l, h => by
    rw [List.filterMap_cons, List.filterMap_cons, h a List.mem_cons_self, fm_congr fun b hb => h b (List.mem_cons_of_mem _ hb)]
theorem range_map {α β : Type} (as : List α) (f : α → β) (g : Nat → Option β) (h : ∀ i a, as[i]? = some a → g i = some (f a)) : (List.range as.length).filterMap g = as.map f := by
  apply List.ext_getElem?
  intro i
  have : (List.range as.length).filterMap g = (List.range as.length).filterMap (fun i => as[i]?.map f) := by
    apply fm_congr
    intro i hi
    have hi := List.mem_range.mp hi
    rw [h i as[i] (List.getElem?_eq_getElem hi), List.getElem?_eq_getElem hi]; rfl
  rw [this]
  clear this
  have key : ∀ as : List α, (List.range as.length).filterMap (fun i => as[i]?.map f) = as.map f := by
    intro as
    induction as with
    | nil => rfl
    | cons a as ih =>
      rw [List.length_cons, List.range_succ_eq_map, List.filterMap_cons, List.filterMap_map]
      simp only [List.getElem?_cons_zero, Option.map_some, List.map_cons]
      rw [← ih]
      rfl
  rw [key]
theorem range_filter {α β : Type} (as : List α) (p : α → Bool) (f : α → β) (g : Nat → Option β) (h : ∀ i a, as[i]? = some a → g i = if p a then some (f a) else none) : (List.range as.length).filterMap g = (as.filter p).map f := by
  have : (List.range as.length).filterMap g = (List.range as.length).filterMap (fun i => as[i]?.bind fun a => if p a then some (f a) else none) := by
    apply fm_congr
    intro i hi
    have hi := List.mem_range.mp hi
    rw [h i as[i] (List.getElem?_eq_getElem hi), List.getElem?_eq_getElem hi]; rfl
  rw [this]
  clear this h
  induction as with
  | nil => rfl
  | cons a as ih =>
    rw [List.length_cons, List.range_succ_eq_map, List.filterMap_cons, List.filterMap_map]
    simp only [List.getElem?_cons_zero, Option.bind_some]
    have e : (fun i => (a :: as)[i]?.bind fun a => if p a then some (f a) else none) ∘ Nat.succ = (fun i => as[i]?.bind fun a => if p a then some (f a) else none) := by
      funext i; simp
    rw [e, ih]
    by_cases hp : p a = true
    · simp [hp]
    · simp [hp]
abbrev Sb (Γ : Ctx) (j : Nat) (y : Im) : Ctx := (Γ.set j none).set j (some (im y.R y.a))
theorem LV.lcL0 (f : α → γ) (hi : IV X b Γ (.Name n np) iter as.length (IL R as)) (nd : X.N.Nodup) (ok : blkC X.N X.env.scope scope [(n, j)] = true) (hm : as.length ≤ 100000)
    (he : ∀ (b' : Bs) (i : Nat) (a : α) s H0 C cl fp, b'.B = b.B → as[i]? = some a → EV (X.blk s H0 scope (compEnvC scope cl C X.env) fp) b' (Sb Γ j (mk R a)) elt (im S (f a)))
    (hg : ∀ (s : Shared) (H0 : Hp) (C : Addr) (cl : List (Str × Addr)) (fp : List Addr), PG (X.blk s H0 scope (compEnvC scope cl C X.env) fp) (.Name n np) (gName j)) (hc : X.calm = true := by rfl) (hf : ∀ x, foldedSetIterable iter X.env x = pure x := by intro _; rfl) :
    LV X b Γ (.ListComp elt [⟨.Name n np, iter, [], 0⟩] scope pos) (ow S (as.map f)) := by
  have h := LV.lcG (X := X) (elt := elt) (pos := pos) (S := S) (fun i => as[i]?.map f) (tt := tYes) hi nd ok hm (fun _ _ _ _ _ => pts_nil) (fun b' i y hb hi hy => by
      obtain ⟨a, h1, rfl⟩ := hy
      rw [h1]; exact TvS.yes) (fun b' i y s H0 C cl fp z hb hi hy hz => by
      obtain ⟨a, h1, rfl⟩ := hy
      rw [h1] at hz
      cases hz
      exact he b' i a s H0 C cl fp hb h1) hg hc hf
  rwa [range_map as f _ (fun i a h => by rw [h]; rfl)] at h
theorem LV.lcL1 {tst : Expr} (p : α → Bool) (f : α → γ) (hi : IV X b Γ (.Name n np) iter as.length (IL R as)) (nd : X.N.Nodup) (ok : blkC X.N X.env.scope scope [(n, j)] = true) (hm : as.length ≤ 100000)
    (ht : ∀ (b' : Bs) (i : Nat) (a : α) s H0 C cl fp, b'.B = b.B → as[i]? = some a → TV (X.blk s H0 scope (compEnvC scope cl C X.env) fp) b' (Sb Γ j (mk R a)) tst (p a))
    (he : ∀ (b' : Bs) (i : Nat) (a : α) s H0 C cl fp, b'.B = b.B → as[i]? = some a → p a = true → EV (X.blk s H0 scope (compEnvC scope cl C X.env) fp) b' (Sb Γ j (mk R a)) elt (im S (f a)))
    (hg : ∀ (s : Shared) (H0 : Hp) (C : Addr) (cl : List (Str × Addr)) (fp : List Addr), PG (X.blk s H0 scope (compEnvC scope cl C X.env) fp) (.Name n np) (gName j)) (hc : X.calm = true := by rfl) (hf : ∀ x, foldedSetIterable iter X.env x = pure x := by intro _; rfl) :
    LV X b Γ (.ListComp elt [⟨.Name n np, iter, [tst], 0⟩] scope pos) (ow S ((as.filter p).map f)) := by
  have h := LV.lcG (X := X) (elt := elt) (pos := pos) (S := S) (fun i => as[i]?.bind fun a => if p a then some (f a) else none) hi nd ok hm (fun _ _ _ _ _ => pts_one pt_wb) (fun b' i y hb hi hy => by
      obtain ⟨a, h1, rfl⟩ := hy
      have q := ht b' i a
      rw [h1, Option.bind_some]
      have e : (if p a then some (f a) else none).isSome = p a := by cases p a <;> rfl
      rw [e]
      exact TvS.blk fun s H0 C cl fp => q s H0 C cl fp hb h1) (fun b' i y s H0 C cl fp z hb hi hy hz => by
      obtain ⟨a, h1, rfl⟩ := hy
      rw [h1, Option.bind_some] at hz
      by_cases hp : p a = true
      · rw [if_pos hp] at hz
        cases hz
        exact he b' i a s H0 C cl fp hb h1 hp
      · rw [if_neg hp] at hz; cases hz) hg hc hf
  rwa [range_filter as p f _ (fun i a h => by rw [h]; rfl)] at h
theorem LV.lcR1 {tst : Expr} (p : Nat → Bool) (f : Nat → γ) (hi : IV X b Γ (.Name n np) iter m IRz) (nd : X.N.Nodup) (ok : blkC X.N X.env.scope scope [(n, j)] = true) (hm : m ≤ 100000)
    (ht : ∀ b' i s H0 C cl fp, b'.B = b.B → i < m → TV (X.blk s H0 scope (compEnvC scope cl C X.env) fp) b' (Sb Γ j (mk rI (i : Int))) tst (p i))
    (he : ∀ b' i s H0 C cl fp, b'.B = b.B → i < m → p i = true → EV (X.blk s H0 scope (compEnvC scope cl C X.env) fp) b' (Sb Γ j (mk rI (i : Int))) elt (im S (f i)))
    (hg : ∀ (s : Shared) (H0 : Hp) (C : Addr) (cl : List (Str × Addr)) (fp : List Addr), PG (X.blk s H0 scope (compEnvC scope cl C X.env) fp) (.Name n np) (gName j)) (hc : X.calm = true := by rfl) (hf : ∀ x, foldedSetIterable iter X.env x = pure x := by intro _; rfl) :
    LV X b Γ (.ListComp elt [⟨.Name n np, iter, [tst], 0⟩] scope pos) (ow S (((List.range m).filter p).map f)) := by
  have h := LV.lcG (X := X) (elt := elt) (pos := pos) (S := S) (fun i => if p i then some (f i) else none) hi nd ok hm (fun _ _ _ _ _ => pts_one pt_wb) (fun b' i y hb hi hy => by
      have hy : y = mk rI (i : Int) := hy
      subst hy
      have e : (if p i then some (f i) else none).isSome = p i := by cases p i <;> rfl
      rw [e]
      exact TvS.blk fun s H0 C cl fp => ht b' i s H0 C cl fp hb hi) (fun b' i y s H0 C cl fp z hb hi hy hz => by
      have hy : y = mk rI (i : Int) := hy
      subst hy
      by_cases hp : p i = true
      · rw [if_pos hp] at hz
        cases hz
        exact he b' i s H0 C cl fp hb hi hp
      · rw [if_neg hp] at hz; cases hz) hg hc hf
  have e : (List.range m).filterMap (fun i => if p i then some (f i) else none) = ((List.range m).filter p).map f := by
    induction List.range m with
    | nil => rfl
    | cons a r ih =>
      rw [List.filterMap_cons, List.filter_cons, ih]
      by_cases hp : p a = true
      · simp [hp]
      · simp [hp]
  rwa [e] at h
end
end Lg

namespace Lg
open PySem L2 Evl PyProof.Rows
/-! ### promises -/
inductive Rs where
  | ok (s : Sl)
  | err (C : Addr)
/-- from data to a result or an error of an own class -/
def spX {ι : Type} (A : ι → List Im) (pre : ι → Prop) (res : ι → Rs) : Sp := fun vs H Q E => ∃ (i : ι) (F : Hp), Ex F H ∧ Ims F vs (A i) ∧ pre i ∧
  (∀ s, res i = .ok s → ∀ v F' H' l', Gw F H F' H' → s.P F' H' v l' → (∀ a ∈ l', H a = none ∧ F' a = none) → Q v H') ∧ (∀ C, res i = .err C → ∀ H', Ex H H' → E (.ref C) none H')
/-- __init__: the new instance first; what it holds behind is told by S -/
def spI {ι β : Type} (C : Addr) (A : ι → List Im) (pre : ι → Prop) (S : Rl β) (res : ι → Except Addr β) : Sp := fun vs H Q E => ∃ (i : ι) (F H0 : Hp) (x dx : Addr) (vs' : List V), vs = .ref x :: vs' ∧ H0 x = none ∧ H0 dx = none ∧ dx ≠ x ∧ H = upd (upd H0 dx (.own x)) x (.ins C dx []) ∧ Ex F H0 ∧ Ims F vs' (A i) ∧ pre i ∧
  (∀ y, res i = .ok y → ∀ F' H', Gw F H0 F' H' → S.r F' (.ref x) y → Q .non H') ∧ (∀ C', res i = .error C' → ∀ H', Ex H0 H' → E (.ref C') none H')
section
variable {X : Cx} {CX : CXT} {k : Nat} {f C : Addr} {fd : FuncData} {ps : List Str} {sp : Sp} {E : L2.St → XK} {x m : Str} {p pos apos : Pos} {e o : Expr} {es : List Expr} {ta : TE} {t : TA}
def tMakeS (C : Addr) (sp : Sp) (E : L2.St → XK) (t : TA) : TE := fun σ H Q => t σ H fun vs H1 => ∀ x dx, H1 x = none → H1 dx = none → dx ≠ x → sp (.ref x :: vs) (upd (upd H1 dx (.own x)) x (.ins C dx [])) (fun v H2 => v = .non ∧ Q (.ref x) H2) (E σ)
theorem pe_makeS (M : Mk X.K C f) (F : FnOk X.prog X.w X.K X.mg X.base CX k f fd ps sp) (hr : Room (k + 1) X.A) (hg : Gl X x) (hm : X.mg x = some (.ref C)) (hb : Binds X.K fd ps []) (hx : ∀ σ, PassesAt CX X σ (E σ))
    (ha : PA X (e :: es) t) (hdb : (x == ("__debug__" : Str)) = false := by decide) (he : starEach (e :: es) X.env = (false, eval e X.env) :: starEach es X.env := by rfl) (hpl : (backTo pos (starEach es X.env)).any (·.1) = false := by rfl) :
    PE X (.Call (.Name x p) (e :: es) [] pos) (tMakeS C sp E t) := by
  refine ⟨fun pins s σ H Q I h => ?_⟩
  refine wpAny_Call_Name_kw (ld_glob I hg hm ?_ hdb)
  refine PySem.W.callWith_K (h₀ := X.base) I.ok.mod.kin M.kp (thn (ha.run pos pins s σ H _ I h) fun us s1 ⟨vs, H1, I1, r, q⟩ => ⟨I1.kIn, ?_⟩) he hpl
  have hq := q (s1.heap.objs.size + 1) s1.heap.objs.size (I1.hok.fresh (Nat.le_succ _)) (I1.hok.fresh (Nat.le_refl _)) (Nat.ne_of_lt (Nat.lt_succ_self _))
  have I2 := Inv.made (C := C) I1
  have r2 : Vals (V.ref (s1.heap.objs.size + 1) :: vs) (Value.ref (s1.heap.objs.size + 1) :: us) := .cons rfl r
  have hl : (Value.ref (s1.heap.objs.size + 1) :: us).length = ps.length := by
    rw [← r2.length]; exact F.len _ _ _ _ hq
  have hbb := hb { s1 with heap := (s1.heap.push { cls := .type "dict", data := .dict #[] }).push (PySem.W.instObj C s1.heap.objs.size) } (Value.ref (s1.heap.objs.size + 1) :: us) I2.kIn (by rw [List.append_nil]; exact hl)
  rw [List.append_nil] at hbb
  refine wpAny_call (make_map (f := f) I1.kIn M.makes M.init (beq_iff_eq.mp M.fn) (codeAny_mono (F.run _ X.stack _ _ ⟨Value.ref (s1.heap.objs.size + 1) :: us, []⟩ (Value.ref (s1.heap.objs.size + 1) :: us) _ _ (E σ) (hr.make C us [])
    (I2.env0.make C us []) hbb r2 hq) fun r s' hq' => ?_))
  cases r with
  | error e => exact hx σ pins _ _ e s' I2 hq'
  | ok fl =>
    cases fl with
    | ret u =>
      obtain ⟨v, H', I3, rv, ev, q3⟩ := I2.after hq'
      subst ev
      exact ⟨rv, ⟨V.ref (s1.heap.objs.size + 1), H', I3, rfl, q3⟩⟩
    | next => exact False.elim hq'
    | brk => exact False.elim hq'
    | cont => exact False.elim hq'
def tMethX (C : Addr) (m : Str) (sp : Sp) (E : L2.St → XK) (ta : TE) (t : TA) : TE := fun σ H Q => ta σ H fun x H1 => ∃ a dx fs, x = .ref a ∧ H1 a = some (.ins C dx fs) ∧ fs.lookup m = none ∧ t σ H1 fun vs H2 => sp (x :: vs) H2 Q (E σ)
theorem pe_methX {pl : Sem Bool} (he : PE X o ta) (c : Cls X.K C) (hm : Meth X.K C m f) (F : FnOk X.prog X.w X.K X.mg X.base CX k f fd ps sp) (hr : Room k X.A) (hb : Binds X.K fd ps []) (hx : ∀ σ, PassesAt CX X σ (E σ)) (ha : PA X (e :: es) t)
    (hst : starEach (e :: es) X.env = (false, eval e X.env) :: starEach es X.env := by rfl) (hpl : (backTo pos (starEach es X.env)).any (·.1) = false := by rfl)
    (ht : eval (.Call (.Attribute o m apos) (e :: es) [] pos) X.env = (do
      let ov ← eval o X.env
      standAt apos.atName
      let (f, first) ← holding [ov] (getMethod ov m pl)
      callWith pos f first (backTo pos (starEach (e :: es) X.env)) (backToKw pos (keywordEach [] X.env))) := by rfl) :
    PE X (.Call (.Attribute o m apos) (e :: es) [] pos) (tMethX C m sp E ta t) := by
  refine ⟨fun pins s σ H Q I h => ?_⟩
  refine PySem.W.methodCall_KW (pl := pl) (thn (he.run pins s σ H _ I h) fun u s1 ⟨x, H1, I1, rx, a, dx, fs, ex, ea, l, q⟩ => ?_) ht
  subst ex
  obtain rfl : u = Value.ref a := rx
  refine getmeth_ok I1 ea c hm l ?_
  refine PySem.W.callWith_K (first := [.ref a]) (h₀ := X.base) I.ok.mod.kin hm.kp (thn (ha.run pos pins s1 σ H1 _ I1 q) fun us s2 ⟨vs, H2, I2, r, q2⟩ => ⟨I2.kIn, ?_⟩) hst hpl
  exact run_fnS (us := .ref a :: us) (vs := .ref a :: vs) F hr hb (hx σ) I2 (.cons rfl r) q2
theorem pe_methX0 {pl : Sem Bool} (he : PE X o ta) (c : Cls X.K C) (hm : Meth X.K C m f) (F : FnOk X.prog X.w X.K X.mg X.base CX k f fd ps sp) (hr : Room k X.A) (hb : Binds X.K fd ps []) (hx : ∀ σ, PassesAt CX X σ (E σ))
    (ht : eval (.Call (.Attribute o m apos) [] [] pos) X.env = (do
      let ov ← eval o X.env
      standAt apos.atName
      let (f, first) ← holding [ov] (getMethod ov m pl)
      callWith pos f first (backTo pos (starEach [] X.env)) (backToKw pos (keywordEach [] X.env))) := by rfl) :
    PE X (.Call (.Attribute o m apos) [] [] pos) (tMethX C m sp E ta tNil) := by
  refine ⟨fun pins s σ H Q I h => ?_⟩
  refine PySem.W.methodCall_KW (pl := pl) (thn (he.run pins s σ H _ I h) fun u s1 ⟨x, H1, I1, rx, a, dx, fs, ex, ea, l, q⟩ => ?_) ht
  subst ex
  obtain rfl : u = Value.ref a := rx
  refine getmeth_ok I1 ea c hm l ?_
  exact PySem.W.callWith_K0 (first := [.ref a]) I1.kIn hm.kp (run_fnS (us := [.ref a]) (vs := [.ref a]) F hr hb (hx σ) I1 (.cons rfl .nil) q)
end
/-- what is known of a def, a method, a class that is made -/
structure Kn (P : Program) (w : World) (K : PySem.W.Frag) (mg : Str → Option Value) (base : Heap) (k : Nat) (x : Str) (ps : List Str) (sp : Sp) : Prop where
  ex : ∃ f fd, FnOk P w K mg base (L2.CX P w) k f fd ps sp ∧ mg x = some (.ref f) ∧ PySem.W.keepIn K (.ref f) = true ∧ Binds K fd ps []
structure KnM (P : Program) (w : World) (K : PySem.W.Frag) (mg : Str → Option Value) (base : Heap) (k : Nat) (C : Addr) (m : Str) (ps : List Str) (sp : Sp) : Prop where
  ex : ∃ f fd, FnOk P w K mg base (L2.CX P w) k f fd ps sp ∧ Meth K C m f ∧ Binds K fd ps []
  cl : Cls K C
structure KnI (P : Program) (w : World) (K : PySem.W.Frag) (mg : Str → Option Value) (base : Heap) (k : Nat) (C : Addr) (x : Str) (ps : List Str) (sp : Sp) : Prop where
  ex : ∃ f fd, FnOk P w K mg base (L2.CX P w) k f fd ps sp ∧ Mk K C f ∧ mg x = some (.ref C) ∧ Binds K fd ps []
/-- at what Γ tells, an error of the class C is wished for -/
def Xw (b : Bs) (Γ : Ctx) (W : WX) (C : Addr) : Prop := ∀ σ F H, Sg b Γ σ F H → W (.ref C) none σ H
theorem Ex.gw {F H H' : Hp} (e : Ex F H) (h : Ex H H') : Gw F H F H' := ⟨Ex.refl F, h, e.trans h, fun _ h _ => h⟩
section
variable {X : Cx} {b : Bs} {Γ : Ctx} {k : Nat} {x m : Str} {ps : List Str} {ι β : Type} {A : ι → List Im} {pre : ι → Prop} {res : ι → Rs} {i : ι} {s : Sl} {e o : Expr} {es : List Expr} {p pos apos : Pos} {W : WX} {C : Addr}
theorem EV.callR (T : Kn X.prog X.w X.K X.mg X.base k x ps (spX A pre res)) (hr : Room k X.A) (tk : Takes X W) (ha : AV X b Γ (e :: es) (A i)) (hp : pre i) (h1 : ∀ s', res i = .ok s' → s' = s) (h2 : ∀ C, res i = .err C → Xw b Γ W C) (hg : Gl X x := by rfl)
    (hdb : (x == ("__debug__" : Str)) = false := by decide) (he : starEach (e :: es) X.env = (false, eval e X.env) :: starEach es X.env := by rfl) (hpl : (backTo pos (starEach es X.env)).any (·.1) = false := by rfl) : EV X b Γ (.Call (.Name x p) (e :: es) [] pos) s := by
  obtain ⟨ta, p1, p2⟩ := ha
  obtain ⟨f, fd, F, hm, hk, hb⟩ := T.ex
  refine EV.of (pe_callS F hr hg hm hk hb (fun σ => passAt tk σ) p1 hdb he hpl) fun σ F H l g d Q q => p2 σ F H l g d _ fun vs F1 H1 w hv => ?_
  refine ⟨i, F1, w.e, hv, hp, fun s' hs v F' H' l' w' p f => ?_, fun C hC H' h => ?_⟩
  · rw [h1 s' hs] at p
    exact q v F' H' l' (w.trans w') p fun a ha => ⟨ex_none w.h (f a ha).1, (f a ha).2⟩
  · have w2 := w.trans (Ex.gw w.e h)
    exact h2 C hC σ F1 H' ⟨l, g.grow w2, d.grow g.t w2⟩
theorem EV.call (T : Kn X.prog X.w X.K X.mg X.base k x ps (spX A pre res)) (hr : Room k X.A) (tk : Takes X W) (ha : AV X b Γ (e :: es) (A i)) (hp : pre i) (h1 : res i = .ok s) (hg : Gl X x := by rfl)
    (hdb : (x == ("__debug__" : Str)) = false := by decide) (he : starEach (e :: es) X.env = (false, eval e X.env) :: starEach es X.env := by rfl) (hpl : (backTo pos (starEach es X.env)).any (·.1) = false := by rfl) : EV X b Γ (.Call (.Name x p) (e :: es) [] pos) s :=
  EV.callR T hr tk ha hp (fun s' h => by rw [h1] at h; cases h; rfl) (fun C h => by rw [h1] at h; cases h) hg hdb he hpl
/-- o.m() -/
theorem EV.meth0 {β : Type} {R : Rl β} {y : β} {pl : Sem Bool} (T : KnM X.prog X.w X.K X.mg X.base k C m ps (spX A pre res)) (hr : Room k X.A) (tk : Takes X W) (ho : EV X b Γ o (im R y)) (hR : ∀ F v, R.r F v y → ∃ a dx fs, v = .ref a ∧ F a = some (.ins C dx fs) ∧ fs.lookup m = none) (hA : A i = [mk R y]) (hp : pre i) (h1 : res i = .ok s)
    (ht : eval (.Call (.Attribute o m apos) [] [] pos) X.env = (do
      let ov ← eval o X.env
      standAt apos.atName
      let (f, first) ← holding [ov] (getMethod ov m pl)
      callWith pos f first (backTo pos (starEach [] X.env)) (backToKw pos (keywordEach [] X.env))) := by rfl) : EV X b Γ (.Call (.Attribute o m apos) [] [] pos) s := by
  obtain ⟨f, fd, F, hm, hb⟩ := T.ex
  refine EV.of (pe_methX0 pe_w T.cl hm F hr hb (fun σ => passAt tk σ) ht) fun σ F H l g d Q q => ho σ F H l g d _ fun v F1 H1 l1 w ⟨_, hv⟩ _ => ?_
  obtain ⟨a, dx, fs, rfl, ha, hl⟩ := hR F1 v hv
  refine ⟨a, dx, fs, rfl, w.e a _ ha, hl, i, F1, w.e, by rw [hA]; exact .cons hv .nil, hp, fun s' hs v F' H' l' w' p f => ?_, fun C hC H' h => ?_⟩
  · rw [h1] at hs
    cases hs
    exact q v F' H' l' (w.trans w') p fun a ha => ⟨ex_none w.h (f a ha).1, (f a ha).2⟩
  · rw [h1] at hC; cases hC
/-- C(..) -/
theorem EV.make {S : Rl β} {y : β} {ri : ι → Except Addr β} (T : KnI X.prog X.w X.K X.mg X.base k C x ps (spI C A pre S ri)) (hr : Room (k + 1) X.A) (tk : Takes X W) (ha : AV X b Γ (e :: es) (A i)) (hp : pre i) (h1 : ∀ y', ri i = .ok y' → y' = y) (h2 : ∀ C, ri i = .error C → Xw b Γ W C) (hg : Gl X x := by rfl)
    (hdb : (x == ("__debug__" : Str)) = false := by decide) (he : starEach (e :: es) X.env = (false, eval e X.env) :: starEach es X.env := by rfl) (hpl : (backTo pos (starEach es X.env)).any (·.1) = false := by rfl) : EV X b Γ (.Call (.Name x p) (e :: es) [] pos) (im S y) := by
  obtain ⟨ta, p1, p2⟩ := ha
  obtain ⟨f, fd, F, hM, hm, hb⟩ := T.ex
  refine EV.of (pe_makeS hM F hr hg hm hb (fun σ => passAt tk σ) p1 hdb he hpl) (EvS.mki fun σ F H l g d Q q => p2 σ F H l g d _ fun vs F1 H1 w hv => ?_)
  refine fun x dx hx hdx ne => ⟨i, F1, H1, x, dx, vs, rfl, hx, hdx, ne, rfl, w.e, hv, hp, fun y' hy F' H' w' p => ?_, fun C hC H' h => ?_⟩
  · rw [h1 y' hy] at p
    exact ⟨rfl, q _ F' H' (w.trans w') p⟩
  · have w2 := w.trans (Ex.gw w.e h)
    exact h2 C hC σ F1 H' ⟨l, g.grow w2, d.grow g.t w2⟩
end
/-! ### a def keeps its promise -/
def c0 (xs : List Im) (n : Nat) : Ctx := xs.map (fun x => some x.sl) ++ List.replicate n none
theorem SgL.args {F H : Hp} : ∀ {vs : List V} {xs : List Im} (n : Nat), Ims F vs xs → SgL F H (c0 xs n) (vs.map some ++ List.replicate n none) []
  | _, _, n, .nil => by
    show SgL F H (List.replicate n none) (List.replicate n none) []
    induction n with
    | zero => rfl
    | succ n ih => exact ih
  | _, _, n, .cons h t => ⟨_, [], [], rfl, rfl, ⟨rfl, h⟩, SgL.args n t⟩
section
variable {P : Program} {w : World} {K : PySem.W.Frag} {mg : Str → Option Value} {base : Heap} {x qual : Str} {st : Stmt} {f : Addr} {fd : FuncData} {N ps : List Str} {k : Nat} {ι β : Type} {A : ι → List Im} {pre : ι → Prop} {res : ι → Rs}
theorem fn_ok (F : Fun K x qual st f fd) (S : FnScope N ps (defScope st)) (hA : ∀ i, (A i).length = ps.length)
    (body : ∀ (i : ι) (B : Bs) (cdv : Value) (A' : Around) (outer : List Env) (s : Shared) (H : Hp) (E : XK), pre i → Room k (A'.deeper (envOfC qual (defScope st) s.heap.objs.size f cdv)) → (∀ C, res i = .err C → ∀ H', Ex B.B H' → E (.ref C) none H') →
      HT (cxOf (L2.CX P w) P w K mg base N qual (defScope st) f cdv A' outer s H E) B ⟨fun _ => res i = .ok (im rU ()), fun s => res i = .ok s, fun _ => False, fun _ => False⟩ (c0 (A i) (N.length - ps.length)) (defBody st)) :
    FnOk P w K mg base (L2.CX P w) (k + 1) f fd ps (spX A pre res) := by
  refine F.okX S (fun vs H Q E ⟨i, F, _, hv, _⟩ => by rw [hv.len, hA i]) fun cdv A' outer s H vs Q E hr ⟨i, F0, hF, hv, hp, h1, h2⟩ => ⟨_, pss_w, ?_⟩
  have hn : vs.length = ps.length := by rw [hv.len, hA i]
  have g0 : Sg ⟨F0, H⟩ (c0 (A i) (N.length - ps.length)) (L2.start N vs) F0 H := ⟨[], by
    unfold L2.start
    rw [hn]
    exact SgL.args _ hv, Ex.refl _, Ex.refl _, hF, fun _ h _ => h, List.nodup_nil, fun _ h => (nomatch h), fun _ h => nomatch h⟩
  refine wS.mono (body i ⟨F0, H⟩ cdv A' outer s H E hp hr h2 _ F0 H g0) (fun σ' H' h => ?_) (fun v H' h => ?_) (fun _ _ h => ?_) (fun _ _ h => ?_)
  · obtain ⟨Γ, F', ⟨l, _, d⟩, h⟩ := h
    exact h1 _ h .non F' H' [] ⟨d.ef, d.eb, d.e, fun a q1 q2 => d.k a q1 q2⟩ ⟨rfl, rfl⟩ fun _ h => nomatch h
  · obtain ⟨s', F', l, p, d, h⟩ := h
    exact h1 _ h v F' H' l ⟨d.ef, d.eb, d.e, fun a q1 q2 => d.k a q1 q2⟩ p fun a ha => ⟨d.ob a ha, d.of a ha⟩
  · obtain ⟨_, _, _, h⟩ := h; exact h.elim
  · obtain ⟨_, _, _, h⟩ := h; exact h.elim
end
end Lg

namespace Lg
open PySem L2 Evl PyProof.Rows
/-! ### objects of one's own classes -/
inductive Fls (F : Hp) : List (Str × V) → List (Str × Im) → Prop
  | nil : Fls F [] []
  | cons {f : Str} {v : V} {x : Im} {ws : List (Str × V)} {xs : List (Str × Im)} : x.R.r F v x.a → Fls F ws xs → Fls F ((f, v) :: ws) ((f, x) :: xs)
theorem Fls.m {F F' : Hp} (e : Ex F F') : ∀ {ws xs}, Fls F ws xs → Fls F' ws xs
  | _, _, .nil => .nil
  | _, _, .cons h t => .cons (Rl.m _ e h) (t.m e)
theorem Fls.look {F : Hp} : ∀ {ws : List (Str × V)} {xs : List (Str × Im)} {f : Str}, Fls F ws xs → match xs.lookup f with | none => ws.lookup f = none | some x => ∃ v, ws.lookup f = some v ∧ x.R.r F v x.a
  | _, _, f, .nil => rfl
  | _, _, f, .cons (f := g) (v := v) (x := x) h t => by
    rw [List.lookup_cons, List.lookup_cons]
    cases f == g with
    | true => exact ⟨v, rfl, h⟩
    | false => exact t.look
theorem Fls.len {F : Hp} : ∀ {ws xs}, Fls F ws xs → ws.length = xs.length
  | _, _, .nil => rfl
  | _, _, .cons _ t => by simp [t.len]
/-- an instance whose fields are data -/
def rObj {α : Type} (C : Addr) (fs : α → List (Str × Im)) : Rl α :=
  ⟨fun F v x => ∃ a dx ws, v = .ref a ∧ F a = some (.ins C dx ws) ∧ Fls F ws (fs x), fun {F F' v x} e ⟨a, dx, ws, h1, h2, h3⟩ => ⟨a, dx, ws, h1, e a _ h2, h3.m e⟩⟩
/-- the instance in the making -/
def ob (C a : Addr) (fs : List (Str × Im)) : Sl where
  P := fun F H v l => ∃ dx ws, v = .ref a ∧ l = [a] ∧ H a = some (.ins C dx ws) ∧ Fls F ws fs
  m := fun e k ⟨dx, ws, h1, h2, h3, h4⟩ => ⟨dx, ws, h1, h2, by rw [k a (by rw [h2]; exact List.mem_singleton.mpr rfl)]; exact h3, h4.m e⟩
  t := fun ⟨dx, ws, h1, h2, h3, h4⟩ c hc => by
    rw [h2] at hc
    rw [List.mem_singleton.mp hc, h3]
    exact fun z => nomatch z
  d := fun ⟨dx, ws, h1, h2, h3, h4⟩ => by rw [h2]; simp
def putI (f : Str) (x : Im) : List (Str × Im) → List (Str × Im)
  | [] => [(f, x)]
  | (g, y) :: r => if g = f then (f, x) :: r else (g, y) :: putI f x r
theorem Fls.put {F : Hp} {f : Str} {v : V} {x : Im} (h : x.R.r F v x.a) : ∀ {ws xs}, Fls F ws xs → Fls F (putF f v ws) (putI f x xs)
  | _, _, .nil => .cons h .nil
  | _, _, .cons (f := g) (v := u) (ws := ws) (x := y) (xs := xs) h1 t => by
    unfold putF putI
    by_cases z : g = f
    · rw [if_pos z, if_pos z]; first | exact .cons h t | (subst z; exact .cons h t)
    · rw [if_neg z, if_neg z]; exact .cons h1 (Fls.put h t)
section
variable {X : Cx} {b : Bs} {D : EndC} {Γ : Ctx} {α β : Type} {R : Rl α} {S : Rl β} {x : α} {y : β} {C : Addr} {fs : α → List (Str × Im)} {fl : List (Str × Im)} {f n : Str} {e : Expr} {pos np tp : Pos} {rest : List Stmt} {i : Nat}
theorem EV.fld (hc : Cls X.K C) (h : EV X b Γ e (im (rObj C fs) x)) (hl : (fs x).lookup f = some (mk S y)) (hn : NoAttr X.K C f) (hb : attributeBase e f X.env (eval e X.env) = eval e X.env := by rfl) : EV X b Γ (.Attribute e f pos) (im S y) :=
  EV.of (pe_fld pe_w hb) (EvS.mki fun σ F H l g d Q q => h σ F H l g d _ fun v F1 H1 l1 w ⟨_, a, dx, ws, h1, h2, h3⟩ _ => by
    have k := h3.look (f := f)
    rw [hl] at k
    obtain ⟨u, k1, k2⟩ := k
    exact ⟨a, C, dx, ws, u, h1, w.e a _ h2, hc, hn, k1, q u F1 H1 w k2⟩)
theorem rObj.no {F : Hp} {v : V} {m : Str} (h : (rObj C fs).r F v x) (hm : (fs x).lookup m = none) : ∃ a dx ws, v = .ref a ∧ F a = some (.ins C dx ws) ∧ ws.lookup m = none := by
  obtain ⟨a, dx, ws, h1, h2, h3⟩ := h
  have k := h3.look (f := m)
  rw [hm] at k
  exact ⟨a, dx, ws, h1, h2, k⟩
/-- self.f = e, in __init__ -/
theorem HT.fld {a : Addr} (hc : Cls X.K C) (i : Nat) (hΓ : Γ[i]? = some (some (ob C a fl))) (he : EV X b Γ e (im S y)) (hn : NoAttr X.K C f) (hz : fl.length < 1000) (k : HT X b D (Γ.set i (some (ob C a (putI f (mk S y) fl)))) rest) (hN : X.N[i]? = some n := by rfl) (hv : Vis X.env.scope n := by first | exact Or.inl rfl | exact Or.inr (Or.inl rfl) | exact Or.inr (Or.inr rfl))
    (hd : (n == ("__debug__" : Str)) = false := by decide) (hcd : (n == ("__classdict__" : Str)) = false := by decide) (hs : swapsWith e (some (.Attribute (.Name n np) f tp)) pos.line X.env = pure false := by rfl) : HT X b D Γ (.Assign [.Attribute (.Name n np) f tp] e pos :: rest) :=
  HT.step (ps_fld (pe_var hN hv hd hcd) pe_w hs) fun σ F H ⟨l, g, d⟩ => he σ F H l g d _ fun v F1 H1 l1 w1 p1 _ => by
    have g1 := g.grow w1
    have d1 := d.grow g.t w1
    obtain ⟨u, l2, h1, ⟨dx, ws, rfl, rfl, h4, h5⟩, h6, h7⟩ := g1.mod d1.nd hΓ
    have ha := h6 a (List.mem_singleton.mpr rfl)
    refine ⟨_, h1, a, C, dx, ws, rfl, h4, hc, hn, by rw [h5.len]; exact hz, k σ F1 _ ⟨l, h7 _ _ (fun c hc => upd_ne fun z => hc (List.mem_singleton.mpr z)) ⟨dx, _, rfl, rfl, upd_same, Fls.put (x := mk S y) p1.2 h5⟩, d1.ef, Ex.mut d1.eb (d1.ob a ha), Ex.mut d1.e (d1.of a ha), d1.k, d1.nd, d1.of, d1.ob⟩⟩
end
section
variable {P : Program} {w : World} {K : PySem.W.Frag} {mg : Str → Option Value} {base : Heap} {x qual : Str} {st : Stmt} {f C : Addr} {fd : FuncData} {N ps : List Str} {k : Nat} {ι β : Type} {A : ι → List Im} {pre : ι → Prop} {res : ι → Except Addr β} {fs : β → List (Str × Im)}
theorem fn_init (F : Fun K x qual st f fd) (S : FnScope N ps (defScope st)) (hA : ∀ i, (A i).length + 1 = ps.length)
    (body : ∀ (i : ι) (B : Bs) (a : Addr) (cdv : Value) (A' : Around) (outer : List Env) (s : Shared) (H : Hp) (E : XK), pre i → Room k (A'.deeper (envOfC qual (defScope st) s.heap.objs.size f cdv)) → (∀ C', res i = .error C' → ∀ H', Ex B.B H' → E (.ref C') none H') →
      HT (cxOf (L2.CX P w) P w K mg base N qual (defScope st) f cdv A' outer s H E) B ⟨fun Γ => ∃ y fl, res i = .ok y ∧ Γ[0]? = some (some (ob C a fl)) ∧ fl = fs y, fun _ => False, fun _ => False, fun _ => False⟩ (some (ob C a []) :: c0 (A i) (N.length - ps.length)) (defBody st)) :
    FnOk P w K mg base (L2.CX P w) (k + 1) f fd ps (spI C A pre (rObj C fs) res) := by
  refine F.okX S (fun vs H Q E ⟨i, F, H0, a, dx, vs', e, _, _, _, _, _, hv, _⟩ => by rw [e, List.length_cons, hv.len, hA i]) fun cdv A' outer s H vs Q E hr ⟨i, F0, H0, a, dx, vs', hvs, ha, hdx, hne, hH, hF, hv, hp, h1, h2⟩ => ⟨_, pss_w, ?_⟩
  have hn : vs.length = ps.length := by rw [hvs, List.length_cons, hv.len, hA i]
  have hdn : (upd H0 dx (.own a)) a = none := by rw [upd_ne hne.symm]; exact ha
  have g0 : Sg ⟨F0, upd H0 dx (.own a)⟩ (some (ob C a []) :: c0 (A i) (N.length - ps.length)) (L2.start N vs) F0 H := ⟨[a], by
    unfold L2.start
    rw [hn, hvs]
    exact ⟨.ref a, [a], [], rfl, rfl, ⟨dx, [], rfl, rfl, by rw [hH]; exact upd_same, .nil⟩, SgL.args _ hv⟩, Ex.refl _, by rw [hH]; exact Ex.new hdn, (hF.trans (Ex.new hdx)).trans (by rw [hH]; exact Ex.new hdn), fun _ h _ => h, by simp, fun c hc => by
    rw [List.mem_singleton.mp hc]; exact ex_none hF ha, fun c hc => by rw [List.mem_singleton.mp hc]; exact hdn⟩
  refine wS.mono (body i ⟨F0, upd H0 dx (.own a)⟩ a cdv A' outer s H E hp hr (fun C' hC H' h => h2 C' hC H' ((Ex.new hdx).trans h)) _ F0 H g0) (fun σ' H' h => ?_) (fun v H' h => ?_) (fun _ _ h => ?_) (fun _ _ h => ?_)
  · obtain ⟨Γ, F', ⟨l, g, d⟩, y, fl, hy, hΓ, hfl⟩ := h
    obtain ⟨v, l1, q1, ⟨dx', ws, rfl, rfl, q4, q5⟩, q6⟩ := g.get hΓ
    have la := q6 a (List.mem_singleton.mpr rfl)
    have fa := d.of a la
    refine h1 y hy (upd F' a (.ins C dx' ws)) H' ⟨d.ef.trans (Ex.new fa), (Ex.new hdx).trans d.eb, fun c u hc => ?_, fun c z1 z2 => ?_⟩ ⟨a, dx', ws, rfl, upd_same, by rw [← hfl]; exact q5.m (Ex.new fa)⟩
    · by_cases z : c = a
      · subst z; rw [upd_same] at hc; rw [q4]; exact hc
      · rw [upd_ne z] at hc; exact d.e c u hc
    · rw [upd_ne fun z => z2 (by rw [z]; exact ha)]
      exact d.k c z1 (ex_some (Ex.new hdx) z2)
  · obtain ⟨_, _, _, _, _, h⟩ := h; exact h.elim
  · obtain ⟨_, _, _, h⟩ := h; exact h.elim
  · obtain ⟨_, _, _, h⟩ := h; exact h.elim
end
end Lg

namespace Lg
open PySem L2 Evl PyProof.Rows
/-! ### errors -/
/-- an error class of one's own (over ValueError, no __init__ of its own) -/
structure ErrC (K : PySem.W.Frag) (mg : Str → Option Value) (x : Str) (C : Addr) : Prop where
  q : PySem.W.excIn K C [.type "ValueError", .type "Exception", .type "BaseException", .type "object"] "ValueError.__new__" = true
  g : mg x = some (.ref C)
  k : PySem.W.keepIn K (.ref C) = true
  b : PySem.W.subIn K (.ref C) (.type "BaseException") = some true
  t : PySem.W.typeIn K (.ref C) = some (.type "type")
section
variable {X : Cx} {b : Bs} {D : EndC} {Γ : Ctx} {α β : Type} {R : Rl α} {S : Rl β} {x : α} {y : β} {C CB : Addr} {f n nx : Str} {e : Expr} {pos np tp p pos' : Pos} {rest bd suite : List Stmt} {i : Nat} {s : Sl} {W Wout : WX} {bm : List Value} {B newId initId : String} {b₀ : Stmt}
theorem HT.raise (T : ErrC X.K X.mg nx C) (tk : Takes X W) (he : EV X b Γ e s) (hW : Xw b Γ W C) (hc : X.calm = true := by rfl) (hg : Gl X nx := by rfl) (hse : starEach [e] X.env = (false, eval e X.env) :: starEach [] X.env := by rfl) (hdb : (nx == ("__debug__" : Str)) = false := by decide) : HT X b D Γ (.Raise (some (.Call (.Name nx p) [e] [] pos')) none pos :: rest) :=
  HT.step (ps_raise hc tk (SkE.pmk_own1 PySem.F.excBase_ValueError T.q T.g T.k (raises_own T.b T.t) hg pe_w hse hdb)) fun σ F H ⟨l, g, d⟩ => he σ F H l g d _ fun v F' H' l' w p f => hW σ F' H' ⟨l, g.grow w, d.grow g.t w⟩
/-- try: .. except x as n: .. -/
theorem HT.tryAs (i : Nat) (hc : Names X nx (.ref CB)) (tk : Takes X Wout)
    (hb : ∀ (W : WX) (pn : List (Addr × Obj)) (xe : Value → Shared → Prop), Takes (X.tr pn xe) W → PassesOwn (model X.prog X.w) X.A X.env xe →
      (∀ (Γ' : Ctx) (C : Addr) (b' : Bs), Up b b' → PySem.W.exmOne X.K (.ref C) (.ref CB) = some true → (∀ (a : Addr) (oe : Obj) (pn : List (Addr × Obj)), Zc (.ref C) none oe → (∃ vs, oe.data = .fields vs) →
        HT (X.suite a ((a, oe) :: pn)) b ⟨fun Γ => HT X b D (Γ.set i none) rest, D.rt, fun Γ => D.bk (Γ.set i none), fun Γ => D.ct (Γ.set i none)⟩ (Γ'.set i (some (vx (.ref a)))) (b₀ :: suite)) → Xw b' Γ' W C) →
      HT (X.tr pn xe) b (D.into X b rest) Γ bd)
    (nd : X.N.Nodup) (hs : X.stack = X.env :: X.outer := by rfl) (hf : X.env.frame = some X.env.locals := by rfl) (hi : X.N[i]? = some n := by rfl) (hln : X.env.kindOf n = some .local := by rfl) :
    HT X b D Γ (.Try bd [.ExceptHandler (some (.Name nx np)) (some n) (b₀ :: suite) pos'] [] [] pos :: rest) :=
  HT.step (ps_try_as (tb := fun W D σ H => ∀ pn xe, Takes (X.tr pn xe) W → PassesOwn (model X.prog X.w) X.A X.env xe → wS (X.tr pn xe) bd D σ H) (ts := fun a cls d D σ H => ∀ oe pn, Zc cls d oe → (∃ vs, oe.data = .fields vs) → wS (X.suite a ((a, oe) :: pn)) (b₀ :: suite) D σ H)
    hs hf nd hi hln hc tk (fun W pn xe tk po => ⟨fun pins s σ H D I h => h pn xe tk po pins s I⟩) (fun a oe cls d pn hz hv => ⟨fun pins s σ H D I h => h oe pn hz hv pins s I⟩)) fun σ F H g pn xe tk2 po => by
    refine HT.into (hb _ pn xe tk2 po (fun Γ' C b' u hex hsu σ' F' H' g' => ?_) σ F H g)
    have g' := u.sg g'
    refine ⟨true, hex, fun _ a ha oe pn2 hz hv => ?_, fun z => nomatch z⟩
    have fa : F' a = none := by
      obtain ⟨l, _, d⟩ := g'
      exact ex_none d.e ha
    have back : ∀ (Q : Ctx → Prop) σ2 H2, At b (fun Γ => Q (Γ.set i none)) σ2 H2 → At b Q (σ2.set i none) H2 := fun Q σ2 H2 ⟨Γ2, F2, ⟨l, g2, d2⟩, q⟩ => by
      obtain ⟨l2, k1, k2, k3⟩ := SgL.put (o' := none) (w := none) (l' := []) trivial List.nodup_nil i g2 d2.nd (fun _ h => nomatch h)
      exact ⟨_, F2, ⟨l2, k1, d2.of_l k2 fun a ha => by
        rcases k3 a ha with z | z
        · exact ⟨d2.of a z, d2.ob a z⟩
        · cases z⟩, q⟩
    refine wS.mono (hsu a oe pn2 hz hv _ F' H' (Sg.put0 i g' ⟨rfl, rfl⟩)) (fun σ2 H2 h => ?_) (fun _ _ h => h) (fun σ2 H2 h => back _ σ2 H2 h) (fun σ2 H2 h => back _ σ2 H2 h)
    obtain ⟨Γ3, F3, g3, h3⟩ := back (fun Γ => HT X b D Γ rest) σ2 H2 h
    exact h3 _ F3 H2 g3
/-- isinstance(e, K) of the error that a suite holds -/
theorem EV.isE {a D C' : Addr} {oe : Obj} {pn : List (Addr × Obj)} {c : Bool} {cx : Str} {p1 p2 p3 : Pos} (E : ExcC X.K D) (hz : Zc (.ref D) none oe) (hf : ∃ vs, oe.data = .fields vs) (i : Nat) (hΓ : Γ[i]? = some (some (vx (.ref a)))) (hm : X.mg "isinstance" = none) (hC : X.mg cx = some (.ref C')) (hk : PySem.W.kitOne X.K (.ref D) (.ref C') = some c)
    (hN : X.N[i]? = some n := by rfl) (hv : Vis X.env.scope n := by first | exact Or.inl rfl | exact Or.inr (Or.inl rfl) | exact Or.inr (Or.inr rfl)) (hg : Gl X "isinstance" := by rfl) (hgc : Gl X cx := by rfl)
    (hd : (n == ("__debug__" : Str)) = false := by decide) (hcd : (n == ("__classdict__" : Str)) = false := by decide) (hdc : (cx == ("__debug__" : Str)) = false := by decide) :
    EV (X.suite a ((a, oe) :: pn)) b Γ (.Call (.Name "isinstance" p1) [.Name n p2, .Name cx p3] [] pos) (im rB c) :=
  EV.of (pe_callB (X := X.suite a ((a, oe) :: pn)) (call_isE E hz hf) hg hm (by decide +kernel) (pa_cons (pe_var hN hv hd hcd) (pa_cons (pe_glob (v := .ref C') hgc hC rfl hdc) pa_nil))) (EvS.mki fun σ F H l g d Q q => by
    obtain ⟨v, l1, h1, h2, _⟩ := g.get hΓ
    refine ⟨v, h1, .ref C', .ref C', c, by rw [h2.2], fun u hu => hu, hk, q _ F H (Gw.refl d.e) rfl⟩)
end
/-! ### built-ins -/
theorem truth_ints {prog : Program} {w : World} {A : Around} {is : List Int} {its : List Value} (e : IntsAre its is) :
    TruthOf prog w A (fun i v => its.toArray[i]? = some v) (fun i => is.getD i 0 != 0) := fun i v s Q E hv hq => by
  have hv' : its[i]? = some v := by simpa using hv
  have key : ∀ {its : List Value} {is : List Int} {i : Nat} {v : Value}, IntsAre its is → its[i]? = some v → ∃ t, v = Value.int (is.getD i 0) t := by
    intro its is i v h
    induction h generalizing i with
    | nil => intro h; simp at h
    | cons n t _ ih =>
      intro h
      cases i with
      | zero => simp at h; subst h; exact ⟨_, rfl⟩
      | succ i => exact ih (by simpa using h)
  obtain ⟨t, rfl⟩ := key e hv'
  exact PyProof.Rows.truthy_int hq
theorem anyI_range : ∀ is : List Int, (List.range is.length).any (fun i => is.getD i 0 != 0) = is.any (· != 0)
  | [] => rfl
  | b :: bs => by
    rw [List.length_cons, List.range_succ_eq_map, List.any_cons, List.any_map, List.any_cons, ← anyI_range bs]
    all_goals rfl
def rAnyI (K : PySem.W.Frag) : List V → Hp → VK → Prop := fun vs H Q => ∃ (a : Addr) (is : List Int), vs = [V.ref a] ∧ SqL K H a (is.map V.int) ∧ Q (.bl (is.any (· != 0))) H
theorem cr_anyI {X : Cx} (hc : X.calm = true) : CallR X (.builtin "any") (rAnyI X.K) := by
  intro pins s σ H vs us Q I r h
  obtain ⟨a, is, rfl, hs, q⟩ := h
  obtain ⟨its, rv, hl, _⟩ := I.list hs
  rw [Vals.ref1 r]
  have hb := rv.ints
  have hlen := rv.length
  refine call_any_walk (iter_any hl.isList fun s₂ e2 st hne => ?_)
  subst e2
  refine ⟨_, _, _, _, _, _, _, rfl, Walks.list (A := X.A.in1) (I.ok.hd hc) _ a hne its.toArray, st, truth_ints hb, fun h' tk hk => ?_⟩
  refine ⟨.bl _, H, I.kept fun b o eo => hk b o (fun hmem => ?_) (Heap.get?_push_of_some _ eo), ?_, q⟩
  · rcases List.mem_cons.mp hmem with e1 | hmem
    · exact absurd (e1 ▸ Heap.lt_size eo) (Nat.lt_irrefl _)
    · cases hmem
  · show Value.bool _ = Value.bool _
    rw [← anyI_range, List.size_toArray, ← hlen, List.length_map]
theorem all2_ints : ∀ {xs : List V} {is : List Int} {F : Hp}, All2 (rI.r F) xs is → xs = is.map V.int
  | _, _, _, .nil => rfl
  | _, _, _, .cons h t => by rw [show _ = V.int _ from h, all2_ints t]; rfl
theorem all2_bls : ∀ {xs : List V} {is : List Bool} {F : Hp}, All2 (rB.r F) xs is → xs = is.map V.bl
  | _, _, _, .nil => rfl
  | _, _, _, .cons h t => by rw [show _ = V.bl _ from h, all2_bls t]; rfl
theorem all2_strs : ∀ {xs : List V} {is : List Str} {F : Hp}, All2 (rS.r F) xs is → xs = is.map V.str
  | _, _, _, .nil => rfl
  | _, _, _, .cons h t => by rw [show _ = V.str _ from h, all2_strs t]; rfl
section
variable {X : Cx} {b : Bs} {D : EndC} {Γ : Ctx} {α β γ : Type} {R : Rl α} {S : Rl β} {T : Rl γ} {x : α} {y : β} {z : γ} {as : List α} {n : Str} {e e1 e2 : Expr} {es : List Expr} {pos np p : Pos} {i : Nat} {s : Sl} {is : List Int} {i1 i2 : Int}
/-- what a one-argument call asks of the data: nothing new -/
theorem EV.c1 {r : List V → Hp → VK → Prop} (ha : AV X b Γ [e] [mk R x]) (h2 : ∀ {t : TA}, PA X [e] t → PE X (.Call (.Name n p) [e] [] pos) (tCB r t)) (hr : ∀ F H v, Ex F H → R.r F v x → ∀ Q : VK, (∀ u, T.r F u z → Q u H) → r [v] H Q) : EV X b Γ (.Call (.Name n p) [e] [] pos) (im T z) := by
  obtain ⟨ta, p1, p2⟩ := ha
  refine EV.of (h2 p1) (EvS.mki fun σ F H l g d Q q => p2 σ F H l g d _ fun vs F1 H1 w hv => ?_)
  obtain ⟨v, rfl, hv1⟩ := ims1 hv
  exact hr F1 H1 v w.e hv1 Q fun u hu => q u F1 H1 w hu
theorem EV.c2 {r : List V → Hp → VK → Prop} (ha : AV X b Γ [e1, e2] [mk R x, mk S y]) (h2 : ∀ {t : TA}, PA X [e1, e2] t → PE X (.Call (.Name n p) [e1, e2] [] pos) (tCB r t)) (hr : ∀ F H v w, Ex F H → R.r F v x → S.r F w y → ∀ Q : VK, (∀ u, T.r F u z → Q u H) → r [v, w] H Q) : EV X b Γ (.Call (.Name n p) [e1, e2] [] pos) (im T z) := by
  obtain ⟨ta, p1, p2⟩ := ha
  refine EV.of (h2 p1) (EvS.mki fun σ F H l g d Q q => p2 σ F H l g d _ fun vs F1 H1 w hv => ?_)
  obtain ⟨v, u, rfl, hv1, hu1⟩ := ims2 hv
  exact hr F1 H1 v u w.e hv1 hu1 Q fun u hu => q u F1 H1 w hu
section
variable (hst : starEach [e] X.env = (false, eval e X.env) :: starEach [] X.env)
end
/-- B: a built-in function by its name -/
theorem EV.cB {idS : String} {r : List V → Hp → VK → Prop} (hc : CallR X (.builtin idS) r) (ha : AV X b Γ [e] [mk R x]) (hm : X.mg n = none) (hv : bootBuiltins n = some (.builtin idS)) (hr : ∀ F H v, Ex F H → R.r F v x → ∀ Q : VK, (∀ u, T.r F u z → Q u H) → r [v] H Q) (hg : Gl X n) (hn : n ≠ "__name__") (hd : (n == ("__debug__" : Str)) = false)
    (hp : ∀ {t : TA}, PA X [e] t → PE X (.Call (.Name n p) [e] [] pos) (tCB r t)) : EV X b Γ (.Call (.Name n p) [e] [] pos) (im T z) := EV.c1 ha hp hr
theorem EV.abs (ha : AV X b Γ [e] [mk rI i1]) (hm : X.mg "abs" = none) (hg : Gl X "abs" := by rfl) (he : starEach [e] X.env = (false, eval e X.env) :: starEach [] X.env := by rfl) : EV X b Γ (.Call (.Name "abs" p) [e] [] pos) (im rI (if i1 < 0 then -i1 else i1)) :=
  EV.c1 ha (fun h => pe_callB call_abs hg hm (by decide +kernel) h (he := he) (hpl := rfl)) fun F H v _ h Q q => ⟨i1, by rw [show v = V.int i1 from h], q _ rfl⟩
theorem EV.toInt (ha : AV X b Γ [e] [mk rI i1]) (hm : X.mg "int" = none) (hg : Gl X "int" := by rfl) (he : starEach [e] X.env = (false, eval e X.env) :: starEach [] X.env := by rfl) : EV X b Γ (.Call (.Name "int" p) [e] [] pos) (im rI i1) :=
  EV.c1 ha (fun h => pe_callTy call_int1 hg hm (by decide +kernel) h (he := he) (hpl := rfl)) fun F H v _ h Q q => .inl ⟨i1, by rw [show v = V.int i1 from h], q _ rfl⟩
theorem EV.lenL (ha : AV X b Γ [e] [mk (rL R) as]) (hm : X.mg "len" = none) (hg : Gl X "len" := by rfl) (he : starEach [e] X.env = (false, eval e X.env) :: starEach [] X.env := by rfl) : EV X b Γ (.Call (.Name "len" p) [e] [] pos) (im rI (as.length : Int)) :=
  EV.c1 ha (fun h => pe_callB call_len_seq hg hm (by decide +kernel) h (he := he) (hpl := rfl)) fun F H v ef ⟨a, xs, h1, h2, h3⟩ Q q => ⟨a, xs, by rw [h1], .inl (SqL.of (ef a _ h2)), q _ (by show V.int (xs.length : Int) = V.int _; rw [h3.len])⟩
theorem EV.lenT (ha : AV X b Γ [e] [mk (rT R) as]) (hm : X.mg "len" = none) (hg : Gl X "len" := by rfl) (he : starEach [e] X.env = (false, eval e X.env) :: starEach [] X.env := by rfl) : EV X b Γ (.Call (.Name "len" p) [e] [] pos) (im rI (as.length : Int)) :=
  EV.c1 ha (fun h => pe_callB call_len_seq hg hm (by decide +kernel) h (he := he) (hpl := rfl)) fun F H v ef ⟨a, xs, h1, h2, h3⟩ Q q => ⟨a, xs, by rw [h1], .inr (SqT.of (ef a _ h2)), q _ (by show V.int (xs.length : Int) = V.int _; rw [h3.len])⟩
theorem EV.lenSc (ha : AV X b Γ [e] [mk (rSc X.K) is]) (hm : X.mg "len" = none) (hg : Gl X "len" := by rfl) (he : starEach [e] X.env = (false, eval e X.env) :: starEach [] X.env := by rfl) : EV X b Γ (.Call (.Name "len" p) [e] [] pos) (im rI (is.length : Int)) :=
  EV.c1 ha (fun h => pe_callB call_len_seq hg hm (by decide +kernel) h (he := he) (hpl := rfl)) fun F H v ef ⟨a, h1, h2⟩ Q q => ⟨a, _, by rw [h1], .inl (ex_l ef h2), q _ (by show V.int ((is.map V.int).length : Int) = V.int _; rw [List.length_map])⟩
theorem EV.lenS {z : Str} (ha : AV X b Γ [e] [mk rS z]) (hz : z.length ≤ sizeLine) (hm : X.mg "len" = none) (hg : Gl X "len" := by rfl) (he : starEach [e] X.env = (false, eval e X.env) :: starEach [] X.env := by rfl) : EV X b Γ (.Call (.Name "len" p) [e] [] pos) (im rI (z.length : Int)) :=
  EV.c1 ha (fun h => pe_callB call_len_str hg hm (by decide +kernel) h (he := he) (hpl := rfl)) fun F H v ef h Q q => ⟨z, by rw [show v = V.str z from h], hz, q _ rfl⟩
theorem EV.sum (ha : AV X b Γ [e] [mk (rL rI) is]) (hm : X.mg "sum" = none) (hg : Gl X "sum" := by rfl) (hc : X.calm = true := by rfl) (he : starEach [e] X.env = (false, eval e X.env) :: starEach [] X.env := by rfl) : EV X b Γ (.Call (.Name "sum" p) [e] [] pos) (im rI is.sum) :=
  EV.c1 ha (fun h => pe_callB (cr_sum hc) hg hm (by decide +kernel) h (he := he) (hpl := rfl)) fun F H v ef ⟨a, xs, h1, h2, h3⟩ Q q => ⟨a, is, by rw [h1], by rw [← all2_ints h3]; exact SqL.of (ef a _ h2), q _ rfl⟩
theorem EV.anyI (ha : AV X b Γ [e] [mk (rL rI) is]) (hm : X.mg "any" = none) (hg : Gl X "any" := by rfl) (hc : X.calm = true := by rfl) (he : starEach [e] X.env = (false, eval e X.env) :: starEach [] X.env := by rfl) : EV X b Γ (.Call (.Name "any" p) [e] [] pos) (im rB (is.any (· != 0))) :=
  EV.c1 ha (fun h => pe_callB (cr_anyI hc) hg hm (by decide +kernel) h (he := he) (hpl := rfl)) fun F H v ef ⟨a, xs, h1, h2, h3⟩ Q q => ⟨a, is, by rw [h1], by rw [← all2_ints h3]; exact SqL.of (ef a _ h2), q _ rfl⟩
theorem EV.max2 (ha : AV X b Γ [e1, e2] [mk rI i1, mk rI i2]) (hm : X.mg "max" = none) (hg : Gl X "max" := by rfl) (hc : X.calm = true := by rfl) (he : starEach [e1, e2] X.env = (false, eval e1 X.env) :: starEach [e2] X.env := by rfl) (hpl : (backTo pos (starEach [e2] X.env)).any (·.1) = false := by rfl) : EV X b Γ (.Call (.Name "max" p) [e1, e2] [] pos) (im rI (if i2 > i1 then i2 else i1)) :=
  EV.c2 ha (fun h => pe_callB (call_max2 hc) hg hm (by decide +kernel) h (he := he) (hpl := hpl)) fun F H v u ef h1 h2 Q q => ⟨i1, i2, by rw [show v = V.int i1 from h1, show u = V.int i2 from h2], q _ rfl⟩
/-- list(xs): a new one, one's own -/
theorem EV.listOf (ha : AV X b Γ [e] [mk (rL R) as]) (hm : X.mg "list" = none) (hg : Gl X "list" := by rfl) (he : starEach [e] X.env = (false, eval e X.env) :: starEach [] X.env := by rfl) : EV X b Γ (.Call (.Name "list" p) [e] [] pos) (ow R as) := by
  obtain ⟨ta, p1, p2⟩ := ha
  refine EV.of (pe_callTy call_list_of hg hm (by decide +kernel) p1 (he := he) (hpl := rfl)) fun σ F H l g d Q q => p2 σ F H l g d _ fun vs F1 H1 w hv => ?_
  obtain ⟨v, rfl, a, xs, rfl, h2, h3⟩ := ims1 hv
  exact ⟨a, xs, rfl, .inl (SqL.of (w.e a _ h2)), fun c hc => q _ F1 _ [c] (w.trans (Gw.own w.e hc)) ⟨c, xs, rfl, rfl, upd_same, h3⟩ fun c' hc' => by rw [List.mem_singleton.mp hc']; exact ⟨ex_none w.h hc, ex_none w.e hc⟩⟩
/-- xs + ys, xs * k, xs[a:] -/
theorem EV.cat {bs : List α} (ha : EV X b Γ e1 (im (rL R) as)) (hb : EV X b Γ e2 (im (rL R) bs)) (hz : as.length + bs.length ≤ 100000) : EV X b Γ (.BinOp e1 .Add e2 pos) (ow R (as ++ bs)) :=
  EV.of (pe_op op_cat pe_w pe_w) (EvS.op2 ha hb fun F H v w ef ⟨a, xs, h1, h2, h3⟩ ⟨c, ys, k1, k2, k3⟩ Q q => ⟨a, c, xs, ys, h1, k1, ef a _ h2, ef c _ k2, sz_of (by rw [h3.len, k3.len]; exact hz), fun p hp => q _ F _ [p] (Gw.own ef hp) ⟨p, _, rfl, rfl, upd_same, h3.app k3⟩ fun c' hc' => by rw [List.mem_singleton.mp hc']; exact ⟨hp, ex_none ef hp⟩⟩)
theorem EV.rep (ha : EV X b Γ e1 (im (rL R) as)) (hb : EV X b Γ e2 (im rI i1)) (hz : as.length * i1.toNat ≤ 100000) (hi : -(2 ^ 63) ≤ i1 ∧ i1 < 2 ^ 63) : EV X b Γ (.BinOp e1 .Mult e2 pos) (ow R (List.replicate i1.toNat as).flatten) :=
  EV.of (pe_op op_rep pe_w pe_w) (EvS.op2 ha hb fun F H v w ef ⟨a, xs, h1, h2, h3⟩ hw Q q => ⟨a, i1, xs, h1, hw, ef a _ h2, hi.1, hi.2, sz_of (by rw [h3.len]; exact hz), fun p hp => q _ F _ [p] (Gw.own ef hp) ⟨p, _, rfl, rfl, upd_same, h3.rep _⟩ fun c' hc' => by rw [List.mem_singleton.mp hc']; exact ⟨hp, ex_none ef hp⟩⟩)
theorem cutV_from (xs : List V) (m : Nat) : cutV xs (some (m : Int)) none = xs.drop m := by
  unfold cutV
  rw [HT.sIx_nat, HT.sIx_none]
  by_cases h : m ≤ xs.length
  · rw [Nat.min_eq_left h, List.take_of_length_le (by rw [List.length_drop]; omega)]
  · rw [Nat.min_eq_right (by omega), List.drop_of_length_le (Nat.le_refl _), List.drop_of_length_le (by omega)]; simp
theorem EV.from {m : Nat} {p2 : Pos} (ha : EV X b Γ e1 (im (rL R) as)) (hb : EV X b Γ e2 (im rI (m : Int))) : EV X b Γ (.Subscript e1 (.Slice (some e2) none none p2) pos) (ow R (as.drop m)) :=
  EV.of (pe_slice sl_list pe_w (po_some pe_w) po_none) fun σ F H l g d Q q => ha σ F H l g d _ fun v F1 H1 l1 w1 ⟨_, a, xs, h1, h2, h3⟩ _ => hb σ F1 H1 l (g.grow w1) (d.grow g.t w1) _ fun u F2 H2 l2 w2 p2 _ => ⟨(m : Int), p2.2, a, xs, h1, SqL.of (w2.e a _ (w2.f a _ h2)), fun p hp => q _ F2 _ [p] ((w1.trans w2).trans (Gw.own w2.e hp))
    ⟨p, _, rfl, rfl, upd_same, by rw [cutV_from]; exact (h3.imp fun _ _ => R.m w2.f).drop m⟩ fun c' hc' => by rw [List.mem_singleton.mp hc']; exact ⟨ex_none (w1.trans w2).h hp, ex_none w2.e hp⟩⟩
/-! a list of one's own, read by its name -/
theorem EV.lenOw {np : Pos} (i : Nat) (hΓ : Γ[i]? = some (some (ow R as))) (hm : X.mg "len" = none) (hN : X.N[i]? = some n := by rfl) (hv : Vis X.env.scope n := by first | exact Or.inl rfl | exact Or.inr (Or.inl rfl) | exact Or.inr (Or.inr rfl)) (hg : Gl X "len" := by rfl) (hd : (n == ("__debug__" : Str)) = false := by decide) (hcd : (n == ("__classdict__" : Str)) = false := by decide) :
    EV X b Γ (.Call (.Name "len" p) [.Name n np] [] pos) (im rI (as.length : Int)) := EV.of (pe_callB call_len_seq hg hm (by decide +kernel) (pa_cons (pe_var hN hv hd hcd) pa_nil)) (EvS.mki fun σ F H l g d Q q => by
  obtain ⟨v, l1, h1, ⟨a, xs, rfl, rfl, h4, h5⟩, _⟩ := g.get hΓ
  exact ⟨_, h1, a, xs, rfl, .inl (SqL.of h4), q _ F H (Gw.refl d.e) (by show V.int (xs.length : Int) = V.int _; rw [h5.len])⟩)
theorem EV.ixOw {a : α} {k : Int} {np : Pos} (i : Nat) (hΓ : Γ[i]? = some (some (ow R as))) (hk : EV X b Γ e2 (im rI k)) (ha : atI as k = some a) (hN : X.N[i]? = some n := by rfl) (hv : Vis X.env.scope n := by first | exact Or.inl rfl | exact Or.inr (Or.inl rfl) | exact Or.inr (Or.inr rfl)) (hd : (n == ("__debug__" : Str)) = false := by decide) (hcd : (n == ("__classdict__" : Str)) = false := by decide)
    (hs : PlainIx e2 := by exact (fun _ _ => rfl)) : EV X b Γ (.Subscript (.Name n np) e2 pos) (im R a) := EV.of (pe_ix ix_list (pe_var hN hv hd hcd) pe_w hs) (EvS.mki fun σ F H l g d Q q => by
  obtain ⟨v, l1, h1, ⟨c, xs, rfl, rfl, h4, h5⟩, _⟩ := g.get hΓ
  refine ⟨_, h1, hk σ F H l g d _ fun u F1 H1 l2 w p _ => ?_⟩
  obtain ⟨u2, k1, k2⟩ := atI_all h5 ha
  exact ⟨c, xs, k, u2, rfl, p.2, SqL.of (w.h c _ h4), k1, q u2 F1 H1 w (R.m w.f k2)⟩)
theorem inV_ints (k : Int) : ∀ is : List Int, inV (.int k) (is.map V.int) = decide (k ∈ is)
  | [] => rfl
  | a :: is => by
    show (eqV (.int a) (.int k) || inV (.int k) (is.map V.int)) = _
    rw [inV_ints k is, show eqV (.int a) (.int k) = (a == k) from rfl]
    by_cases h : a = k
    · subst h; simp
    · have h' : ¬ k = a := fun e => h e.symm
      simp [h, h']
theorem flat_ints : ∀ is : List Int, (is.map V.int).all flatV = true
  | [] => rfl
  | _ :: is => flat_ints is
theorem EV.inI {k : Int} (hk : EV X b Γ e1 (im rI k)) (hl : EV X b Γ e2 (im (rL rI) is)) (hm : behindInMarks .In e2 = false := by rfl) : EV X b Γ (.Compare e1 [.In] [e2] pos) (im rB (decide (k ∈ is))) := EV.of (pe_cmpR op_in_seq pe_w pe_w hm) (EvS.op2i hk hl fun F H v w ef h1 ⟨a, xs, k1, k2, k3⟩ Q q =>
  ⟨a, xs, k1, .inl (SqL.of (ef a _ k2)), by rw [show v = V.int k from h1]; rfl, by rw [all2_ints k3]; exact flat_ints _, q _ (by rw [show v = V.int k from h1, all2_ints k3, inV_ints]; rfl)⟩)
theorem TV.inI {k : Int} (hk : EV X b Γ e1 (im rI k)) (hl : EV X b Γ e2 (im (rL rI) is)) (hm : behindInMarks .In e2 = false := by rfl) : TV X b Γ (.Compare e1 [.In] [e2] pos) (decide (k ∈ is)) := TV.of (pt_cmpR op_in_seq pe_w pe_w hm) (TvS.test (EvS.op2i hk hl fun F H v w ef h1 ⟨a, xs, k1, k2, k3⟩ Q q =>
  ⟨a, xs, k1, .inl (SqL.of (ef a _ k2)), by rw [show v = V.int k from h1]; rfl, by rw [all2_ints k3]; exact flat_ints _, q _ (by rw [show v = V.int k from h1, all2_ints k3, inV_ints]; rfl)⟩))
theorem EV.ninI {k : Int} (hk : EV X b Γ e1 (im rI k)) (hl : EV X b Γ e2 (im (rL rI) is)) (hm : behindInMarks .NotIn e2 = false := by rfl) : EV X b Γ (.Compare e1 [.NotIn] [e2] pos) (im rB (!decide (k ∈ is))) := EV.of (pe_cmpR op_notIn_seq pe_w pe_w hm) (EvS.op2i hk hl fun F H v w ef h1 ⟨a, xs, k1, k2, k3⟩ Q q =>
  ⟨a, xs, k1, .inl (SqL.of (ef a _ k2)), by rw [show v = V.int k from h1]; rfl, by rw [all2_ints k3]; exact flat_ints _, q _ (by rw [show v = V.int k from h1, all2_ints k3, inV_ints]; rfl)⟩)
theorem TV.ninI {k : Int} (hk : EV X b Γ e1 (im rI k)) (hl : EV X b Γ e2 (im (rL rI) is)) (hm : behindInMarks .NotIn e2 = false := by rfl) : TV X b Γ (.Compare e1 [.NotIn] [e2] pos) (!decide (k ∈ is)) := TV.of (pt_cmpR op_notIn_seq pe_w pe_w hm) (TvS.test (EvS.op2i hk hl fun F H v w ef h1 ⟨a, xs, k1, k2, k3⟩ Q q =>
  ⟨a, xs, k1, .inl (SqL.of (ef a _ k2)), by rw [show v = V.int k from h1]; rfl, by rw [all2_ints k3]; exact flat_ints _, q _ (by rw [show v = V.int k from h1, all2_ints k3, inV_ints]; rfl)⟩))
theorem EV.ninOw {k : Int} {np : Pos} (i : Nat) (hk : EV X b Γ e1 (im rI k)) (hΓ : Γ[i]? = some (some (ow rI is))) (hN : X.N[i]? = some n := by rfl) (hv : Vis X.env.scope n := by first | exact Or.inl rfl | exact Or.inr (Or.inl rfl) | exact Or.inr (Or.inr rfl)) (hd : (n == ("__debug__" : Str)) = false := by decide) (hcd : (n == ("__classdict__" : Str)) = false := by decide) :
    EV X b Γ (.Compare e1 [.NotIn] [.Name n np] pos) (im rB (!decide (k ∈ is))) := EV.of (pe_cmpR op_notIn_seq pe_w (pe_var hN hv hd hcd) rfl) (EvS.mki fun σ F H l g d Q q => hk σ F H l g d _ fun v F1 H1 l1 w p1 _ => by
  obtain ⟨u, l2, h1, ⟨a, xs, rfl, rfl, h4, h5⟩, _⟩ := g.get hΓ
  refine ⟨_, h1, a, xs, rfl, .inl (SqL.of (w.h a _ h4)), by rw [show v = V.int k from p1.2]; rfl, by rw [all2_ints h5]; exact flat_ints _, q _ F1 H1 w (by rw [show v = V.int k from p1.2, all2_ints h5, inV_ints]; rfl)⟩)
theorem TV.ninOw {k : Int} {np : Pos} (i : Nat) (hk : EV X b Γ e1 (im rI k)) (hΓ : Γ[i]? = some (some (ow rI is))) (hN : X.N[i]? = some n := by rfl) (hv : Vis X.env.scope n := by first | exact Or.inl rfl | exact Or.inr (Or.inl rfl) | exact Or.inr (Or.inr rfl)) (hd : (n == ("__debug__" : Str)) = false := by decide) (hcd : (n == ("__classdict__" : Str)) = false := by decide) :
    TV X b Γ (.Compare e1 [.NotIn] [.Name n np] pos) (!decide (k ∈ is)) := TV.of (pt_cmpR op_notIn_seq pe_w (pe_var hN hv hd hcd) rfl) (TvS.test (EvS.mki fun σ F H l g d Q q => hk σ F H l g d _ fun v F1 H1 l1 w p1 _ => by
  obtain ⟨u, l2, h1, ⟨a, xs, rfl, rfl, h4, h5⟩, _⟩ := g.get hΓ
  refine ⟨_, h1, a, xs, rfl, .inl (SqL.of (w.h a _ h4)), by rw [show v = V.int k from p1.2]; rfl, by rw [all2_ints h5]; exact flat_ints _, q _ F1 H1 w (by rw [show v = V.int k from p1.2, all2_ints h5, inV_ints]; rfl)⟩))
/-- e is not True -/
theorem EV.notTrue {c : Bool} {j : Nat} {p2 : Pos} (h : EV X b Γ e1 (im rB c)) : EV X b Γ (.Compare e1 [.IsNot] [.Constant (.bool true) j p2] pos) (im rB (!c)) := EV.of (pe_cmpR op_notBl pe_w pe_w (nomark _)) (EvS.op2i h (EV.bl (c := true)) fun F H v w _ h1 h2 Q q => ⟨c, true, h1, h2, q _ (by show V.bl _ = V.bl _; cases c <;> rfl)⟩)
theorem TV.notTrue {c : Bool} {j : Nat} {p2 : Pos} (h : EV X b Γ e1 (im rB c)) : TV X b Γ (.Compare e1 [.IsNot] [.Constant (.bool true) j p2] pos) (!c) := TV.of (pt_cmpR op_notBl pe_w pe_w (nomark _)) (TvS.test (EvS.op2i h (EV.bl (c := true)) fun F H v w _ h1 h2 Q q => ⟨c, true, h1, h2, q _ (by show V.bl _ = V.bl _; cases c <;> rfl)⟩))
theorem EV.isNon {a : Option α} {j : Nat} {p2 : Pos} (h : EV X b Γ e1 (im (rO R) a)) (hR : ∀ F v x, R.r F v x → v ≠ .non) : EV X b Γ (.Compare e1 [.Is] [.Constant .none j p2] pos) (im rB a.isNone) := EV.of (pe_cmpR op_isN pe_w pe_w (nomark _)) (EvS.op2i h EV.non fun F H v w _ h1 h2 Q q => ⟨h2, q _ (by
  cases a with
  | none => have h1 : v = .non := h1; subst h1; rfl
  | some a => have := hR F v a h1; show V.bl _ = V.bl _; simp [this])⟩)
theorem TV.isNon {a : Option α} {j : Nat} {p2 : Pos} (h : EV X b Γ e1 (im (rO R) a)) (hR : ∀ F v x, R.r F v x → v ≠ .non) : TV X b Γ (.Compare e1 [.Is] [.Constant .none j p2] pos) a.isNone := TV.of (pt_cmpR op_isN pe_w pe_w (nomark _)) (TvS.test (EvS.op2i h EV.non fun F H v w _ h1 h2 Q q => ⟨h2, q _ (by
  cases a with
  | none => have h1 : v = .non := h1; subst h1; rfl
  | some a => have := hR F v a h1; show V.bl _ = V.bl _; simp [this])⟩))
theorem EV.notNon {a : Option α} {j : Nat} {p2 : Pos} (h : EV X b Γ e1 (im (rO R) a)) (hR : ∀ F v x, R.r F v x → v ≠ .non) : EV X b Γ (.Compare e1 [.IsNot] [.Constant .none j p2] pos) (im rB a.isSome) := EV.of (pe_cmpR op_notN pe_w pe_w (nomark _)) (EvS.op2i h EV.non fun F H v w _ h1 h2 Q q => ⟨h2, q _ (by
  cases a with
  | none => have h1 : v = .non := h1; subst h1; rfl
  | some a => have := hR F v a h1; show V.bl _ = V.bl _; simp [this])⟩)
theorem TV.notNon {a : Option α} {j : Nat} {p2 : Pos} (h : EV X b Γ e1 (im (rO R) a)) (hR : ∀ F v x, R.r F v x → v ≠ .non) : TV X b Γ (.Compare e1 [.IsNot] [.Constant .none j p2] pos) a.isSome := TV.of (pt_cmpR op_notN pe_w pe_w (nomark _)) (TvS.test (EvS.op2i h EV.non fun F H v w _ h1 h2 Q q => ⟨h2, q _ (by
  cases a with
  | none => have h1 : v = .non := h1; subst h1; rfl
  | some a => have := hR F v a h1; show V.bl _ = V.bl _; simp [this])⟩))
end
end Lg

namespace Lg
open PySem L2 Evl PyProof.Rows
/-! ### data compared -/
structure Dt {α : Type} (K : PySem.W.Frag) (R : Rl α) (D : α → PyData) (n : Nat) : Prop where
  rep : ∀ {H v x}, R.r H v x → Dp K H v (D x)
  lay : ∀ x, (D x).canLay0 = true
  dep : ∀ x, (D x).depth ≤ n
  eqv : ∀ x y, PyData.eqv (D x) (D y) = true ↔ x = y
section
variable {K : PySem.W.Frag} {α β : Type} {R : Rl α} {S : Rl β} {D : α → PyData} {D' : β → PyData} {n m : Nat}
theorem Dt.int : Dt K rI PyData.int 0 := ⟨fun h => by rw [show _ = V.int _ from h]; exact .int _, fun _ => rfl, fun _ => Nat.le_of_eq rfl, fun x y => by simp [PyData.eqv]⟩
theorem Dt.bool : Dt K rB PyData.bool 0 := ⟨fun h => by rw [show _ = V.bl _ from h]; exact .bl _, fun _ => rfl, fun _ => Nat.le_of_eq rfl, fun x y => by simp [PyData.eqv]⟩
theorem Dt.dpAll (d : Dt K R D n) : ∀ {H : Hp} {vs : List V} {as : List α}, All2 (R.r H) vs as → DpAll K H vs (as.map D)
  | _, _, _, .nil => .nil
  | _, _, _, .cons h t => .cons (d.rep h) (d.dpAll t)
theorem Dt.layAll (d : Dt K R D n) : ∀ as : List α, PyData.canLayAll0 (as.map D) = true
  | [] => rfl
  | a :: as => by
    show ((D a).canLay0 && PyData.canLayAll0 (as.map D)) = true
    rw [d.lay a, d.layAll as]; rfl
theorem Dt.depAll (d : Dt K R D n) : ∀ as : List α, PyData.depthAll (as.map D) ≤ n
  | [] => Nat.zero_le _
  | a :: as => by
    show max (D a).depth (PyData.depthAll (as.map D)) ≤ n
    exact Nat.max_le.mpr ⟨d.dep a, d.depAll as⟩
theorem Dt.eqvAll (d : Dt K R D n) : ∀ as bs : List α, PyData.eqvAll (as.map D) (bs.map D) = true ↔ as = bs
  | [], [] => ⟨fun _ => rfl, fun _ => rfl⟩
  | [], _ :: _ => ⟨fun h => absurd (show false = true from h) (by decide), fun h => nomatch h⟩
  | _ :: _, [] => ⟨fun h => absurd (show false = true from h) (by decide), fun h => nomatch h⟩
  | a :: as, b :: bs => by
    show (PyData.eqv (D a) (D b) && PyData.eqvAll (as.map D) (bs.map D)) = true ↔ _
    rw [Bool.and_eq_true, d.eqv, d.eqvAll as bs]
    exact ⟨fun ⟨h1, h2⟩ => by rw [h1, h2], fun h => by cases h; exact ⟨rfl, rfl⟩⟩
theorem Dt.lst (d : Dt K R D n) : Dt K (rL R) (fun as => .list (as.map D)) (n + 1) := ⟨fun ⟨p, xs, h1, h2, h3⟩ => by
    subst h1; exact .lst (SqL.of h2) (d.dpAll h3), fun as => d.layAll as, fun as => by
    have := d.depAll as
    show PyData.depthAll (as.map D) + 1 ≤ n + 1
    omega, fun as bs => by
    rw [← d.eqvAll as bs]
    exact Iff.rfl⟩
theorem Dt.tup (d : Dt K R D n) : Dt K (rT R) (fun as => .tuple (as.map D)) (n + 1) := ⟨fun ⟨p, xs, h1, h2, h3⟩ => by
    subst h1; exact .tup (SqT.of h2) (d.dpAll h3), fun as => d.layAll as, fun as => by
    have := d.depAll as
    show PyData.depthAll (as.map D) + 1 ≤ n + 1
    omega, fun as bs => by
    rw [← d.eqvAll as bs]
    exact Iff.rfl⟩
end
section
variable {X : Cx} {b : Bs} {Γ : Ctx} {α β γ : Type} {R : Rl α} {S : Rl β} {x y : α} {D : α → PyData} {n : Nat} {e1 e2 : Expr} {pos : Pos}
theorem Dt.shaped (d : Dt X.K R D n) (hn : n ≤ 64) (x : α) : SeqAt.shaped (D x) = true := by
  unfold SeqAt.shaped
  rw [d.lay x, decide_eq_true (Nat.le_trans (d.dep x) hn)]; rfl
theorem EV.eqD [DecidableEq α] (d : Dt X.K R D n) (hn : n ≤ 64) (hu : X.A.units + 64 < cLine) (ha : EV X b Γ e1 (im R x)) (hb : EV X b Γ e2 (im R y)) : EV X b Γ (.Compare e1 [.Eq] [e2] pos) (im rB (decide (x = y))) := EV.of (pe_cmpR (op_eqD hu) pe_w pe_w (nomark _)) (EvS.op2i ha hb fun F H v w ef h1 h2 Q q =>
  ⟨_, _, d.rep (R.m ef h1), d.rep (R.m ef h2), d.shaped hn x, d.shaped hn y, q _ (by
    show V.bl _ = V.bl _
    congr 1
    rw [Bool.eq_iff_iff, d.eqv]; simp)⟩)
theorem TV.eqD [DecidableEq α] (d : Dt X.K R D n) (hn : n ≤ 64) (hu : X.A.units + 64 < cLine) (ha : EV X b Γ e1 (im R x)) (hb : EV X b Γ e2 (im R y)) : TV X b Γ (.Compare e1 [.Eq] [e2] pos) (decide (x = y)) := TV.of (pt_cmpR (op_eqD hu) pe_w pe_w (nomark _)) (TvS.test (EvS.op2i ha hb fun F H v w ef h1 h2 Q q =>
  ⟨_, _, d.rep (R.m ef h1), d.rep (R.m ef h2), d.shaped hn x, d.shaped hn y, q _ (by
    show V.bl _ = V.bl _
    congr 1
    rw [Bool.eq_iff_iff, d.eqv]; simp)⟩))
theorem EV.neD [DecidableEq α] (d : Dt X.K R D n) (hn : n ≤ 64) (hu : X.A.units + 64 < cLine) (ha : EV X b Γ e1 (im R x)) (hb : EV X b Γ e2 (im R y)) : EV X b Γ (.Compare e1 [.NotEq] [e2] pos) (im rB (!decide (x = y))) := EV.of (pe_cmpR (op_neD hu) pe_w pe_w (nomark _)) (EvS.op2i ha hb fun F H v w ef h1 h2 Q q =>
  ⟨_, _, d.rep (R.m ef h1), d.rep (R.m ef h2), d.shaped hn x, d.shaped hn y, q _ (by
    show V.bl _ = V.bl _
    congr 2
    rw [Bool.eq_iff_iff, d.eqv]; simp)⟩)
theorem TV.neD [DecidableEq α] (d : Dt X.K R D n) (hn : n ≤ 64) (hu : X.A.units + 64 < cLine) (ha : EV X b Γ e1 (im R x)) (hb : EV X b Γ e2 (im R y)) : TV X b Γ (.Compare e1 [.NotEq] [e2] pos) (!decide (x = y)) := TV.of (pt_cmpR (op_neD hu) pe_w pe_w (nomark _)) (TvS.test (EvS.op2i ha hb fun F H v w ef h1 h2 Q q =>
  ⟨_, _, d.rep (R.m ef h1), d.rep (R.m ef h2), d.shaped hn x, d.shaped hn y, q _ (by
    show V.bl _ = V.bl _
    congr 2
    rw [Bool.eq_iff_iff, d.eqv]; simp)⟩))
end
/-! ### dicts -/
def kget {β : Type} (kvs : List (Key × β)) (k : Key) : Option β := (kvs.find? fun kv => decide (kv.1 = k)).map (·.2)
def kput {β : Type} (kvs : List (Key × β)) (k : Key) (v : β) : List (Key × β) := if kvs.any (fun kv => decide (kv.1 = k)) then kvs.map (fun kv => if kv.1 = k then (kv.1, v) else kv) else kvs ++ [(k, v)]
inductive KvR {β : Type} (p : V → β → Prop) : List (Key × V) → List (Key × β) → Prop
  | nil : KvR p [] []
  | cons {k : Key} {v : V} {y : β} {ws : List (Key × V)} {kvs : List (Key × β)} : p v y → KvR p ws kvs → KvR p ((k, v) :: ws) ((k, y) :: kvs)
section
variable {β : Type} {p q : V → β → Prop}
theorem KvR.imp (h : ∀ v y, p v y → q v y) : ∀ {ws kvs}, KvR p ws kvs → KvR q ws kvs
  | _, _, .nil => .nil
  | _, _, .cons x t => .cons (h _ _ x) (t.imp h)
theorem KvR.len : ∀ {ws kvs}, KvR p ws kvs → ws.length = kvs.length
  | _, _, .nil => rfl
  | _, _, .cons _ t => by simp [t.len]
theorem KvR.any (k : Key) : ∀ {ws kvs}, KvR p ws kvs → (ws.any fun kv => decide (kv.1 = k)) = kvs.any fun kv => decide (kv.1 = k)
  | _, _, .nil => rfl
  | _, _, .cons x t => by rw [List.any_cons, List.any_cons, t.any k]
theorem KvR.app : ∀ {ws kvs ws' kvs'}, KvR p ws kvs → KvR p ws' kvs' → KvR p (ws ++ ws') (kvs ++ kvs')
  | _, _, _, _, .nil, t => t
  | _, _, _, _, .cons x s, t => .cons x (s.app t)
theorem KvR.repl (k : Key) {v : V} {y : β} (h : p v y) : ∀ {ws kvs}, KvR p ws kvs → KvR p (ws.map fun kv => if kv.1 = k then (kv.1, v) else kv) (kvs.map fun kv => if kv.1 = k then (kv.1, y) else kv)
  | _, _, .nil => .nil
  | _, _, .cons (k := k') x t => by
    rw [List.map_cons, List.map_cons]
    by_cases z : k' = k
    · rw [if_pos z, if_pos z]; exact .cons h (t.repl k h)
    · rw [if_neg z, if_neg z]; exact .cons x (t.repl k h)
theorem KvR.put (k : Key) {v : V} {y : β} (h : p v y) {ws kvs} (t : KvR p ws kvs) : KvR p (putK ws k v) (kput kvs k y) := by
  unfold putK kput
  rw [t.any k]
  split
  · exact t.repl k h
  · exact t.app (.cons h .nil)
theorem KvR.get (k : Key) : ∀ {ws kvs}, KvR p ws kvs → match kget kvs k with | none => valV ws k = none | some y => ∃ v, valV ws k = some v ∧ p v y
  | _, _, .nil => rfl
  | _, _, .cons (k := k') (v := v) (y := y) (ws := ws) (kvs := kvs) x t => by
    by_cases z : k' = k
    · have e : kget ((k', y) :: kvs) k = some y := by simp [kget, List.find?_cons, z]
      rw [e]
      exact ⟨v, valV_pos z, x⟩
    · have e : kget ((k', y) :: kvs) k = kget kvs k := by simp [kget, List.find?_cons, z]
      rw [e, show valV ((k', v) :: ws) k = valV ws k from valV_neg z]
      exact t.get k
end
def rD {β : Type} (S : Rl β) : Rl (List (Key × β)) :=
  ⟨fun H v kvs => ∃ a ws, v = .ref a ∧ H a = some (.dK ws) ∧ KvR (S.r H) ws kvs, fun {H H' v kvs} e ⟨a, ws, h1, h2, h3⟩ => ⟨a, ws, h1, e a _ h2, h3.imp fun _ _ => S.m e⟩⟩
/-- a dict of one's own -/
def owD {β : Type} (S : Rl β) (kvs : List (Key × β)) : Sl where
  P := fun F H v l => ∃ p ws, v = .ref p ∧ l = [p] ∧ H p = some (.dK ws) ∧ KvR (S.r F) ws kvs
  m := fun e k ⟨p, xs, h1, h2, h3, h4⟩ => ⟨p, xs, h1, h2, by rw [k p (by rw [h2]; exact List.mem_singleton.mpr rfl)]; exact h3, h4.imp fun _ _ => S.m e⟩
  t := fun ⟨p, xs, h1, h2, h3, h4⟩ a ha => by
    rw [h2] at ha
    rw [List.mem_singleton.mp ha, h3]
    exact fun z => nomatch z
  d := fun ⟨p, xs, h1, h2, h3, h4⟩ => by rw [h2]; simp
section
variable {X : Cx} {b : Bs} {Γ : Ctx} {α β γ : Type} {R : Rl α} {S : Rl β} {x : α} {y : β} {e e1 e2 kx vx iter : Expr} {pos np : Pos} {kvs : List (Key × β)} {k : Key} {as : List α} {scope : Scope} {n : Str} {j : Nat}
theorem EV.fzD (h : EV X b Γ e (owD S kvs)) : EV X b Γ e (im (rD S) kvs) := EvS.mki fun σ F H l g d Q q => h σ F H l g d Q fun v F' H' l' w ⟨p, xs, h1, h2, h3, h4⟩ f => by
  subst h1 h2
  obtain ⟨f1, f2⟩ := f p (List.mem_singleton.mpr rfl)
  refine q _ (upd F' p (.dK xs)) H' ⟨w.f.trans (Ex.new f2), w.h, fun a u ha => ?_, fun a h1 h2 => ?_⟩ ⟨p, xs, rfl, upd_same, h4.imp fun _ _ => S.m (Ex.new f2)⟩
  · by_cases z : a = p
    · subst z; rw [upd_same] at ha; rw [h3]; exact ha
    · rw [upd_ne z] at ha; exact w.e a u ha
  · rw [upd_ne (fun z => h2 (by rw [z]; exact f1))]; exact w.k a h1 h2
/-- k in d, k not in d, d[k] -/
theorem EV.inD (hu : X.A.units + 1 < cLine) (hk : EV X b Γ e1 (im R x)) (hx : ∀ F v, R.r F v x → v = kV k) (hd : EV X b Γ e2 (im (rD S) kvs)) (hm : behindInMarks .In e2 = false := by rfl) : EV X b Γ (.Compare e1 [.In] [e2] pos) (im rB (kget kvs k).isSome) := EV.of (pe_cmp (pc_din hu pe_w pe_w) hm) (EvS.mki fun σ F H l g d Q q =>
  hk σ F H l g d _ fun v F1 H1 l1 w1 p1 _ => hd σ F1 H1 l (g.grow w1) (d.grow g.t w1) _ fun u F2 H2 l2 w2 ⟨_, a, ws, h1, h2, h3⟩ _ => by
    refine ⟨a, valV ws k, h1, ?_, ?_⟩
    · rw [hx F1 v p1.2]; exact DGet.k (w2.e a _ h2)
    · refine q _ F2 H2 (w1.trans w2) ?_
      have t := h3.get k
      show V.bl _ = V.bl _
      cases z : kget kvs k with
      | none => rw [z] at t; rw [t]; rfl
      | some y => rw [z] at t; obtain ⟨u, t, _⟩ := t; rw [t]; rfl)
theorem TV.inD (hu : X.A.units + 1 < cLine) (hk : EV X b Γ e1 (im R x)) (hx : ∀ F v, R.r F v x → v = kV k) (hd : EV X b Γ e2 (im (rD S) kvs)) (hm : behindInMarks .In e2 = false := by rfl) : TV X b Γ (.Compare e1 [.In] [e2] pos) (kget kvs k).isSome := TV.of (pt_cmp (pc_din hu pe_w pe_w) hm) (TvS.testB (EvS.mki fun σ F H l g d Q q =>
  hk σ F H l g d _ fun v F1 H1 l1 w1 p1 _ => hd σ F1 H1 l (g.grow w1) (d.grow g.t w1) _ fun u F2 H2 l2 w2 ⟨_, a, ws, h1, h2, h3⟩ _ => by
    refine ⟨a, valV ws k, h1, ?_, ?_⟩
    · rw [hx F1 v p1.2]; exact DGet.k (w2.e a _ h2)
    · refine q _ F2 H2 (w1.trans w2) ?_
      have t := h3.get k
      show V.bl _ = V.bl _
      cases z : kget kvs k with
      | none => rw [z] at t; rw [t]; rfl
      | some y => rw [z] at t; obtain ⟨u, t, _⟩ := t; rw [t]; rfl))
theorem EV.ninD (hu : X.A.units + 1 < cLine) (hk : EV X b Γ e1 (im R x)) (hx : ∀ F v, R.r F v x → v = kV k) (hd : EV X b Γ e2 (im (rD S) kvs)) (hm : behindInMarks .NotIn e2 = false := by rfl) : EV X b Γ (.Compare e1 [.NotIn] [e2] pos) (im rB (!(kget kvs k).isSome)) := EV.of (pe_cmp (pc_dnotin hu pe_w pe_w) hm) (EvS.mki fun σ F H l g d Q q =>
  hk σ F H l g d _ fun v F1 H1 l1 w1 p1 _ => hd σ F1 H1 l (g.grow w1) (d.grow g.t w1) _ fun u F2 H2 l2 w2 ⟨_, a, ws, h1, h2, h3⟩ _ => by
    refine ⟨a, valV ws k, h1, ?_, ?_⟩
    · rw [hx F1 v p1.2]; exact DGet.k (w2.e a _ h2)
    · refine q _ F2 H2 (w1.trans w2) ?_
      have t := h3.get k
      show V.bl _ = V.bl _
      cases z : kget kvs k with
      | none => rw [z] at t; rw [t]; rfl
      | some y => rw [z] at t; obtain ⟨u, t, _⟩ := t; rw [t]; rfl)
theorem TV.ninD (hu : X.A.units + 1 < cLine) (hk : EV X b Γ e1 (im R x)) (hx : ∀ F v, R.r F v x → v = kV k) (hd : EV X b Γ e2 (im (rD S) kvs)) (hm : behindInMarks .NotIn e2 = false := by rfl) : TV X b Γ (.Compare e1 [.NotIn] [e2] pos) (!(kget kvs k).isSome) := TV.of (pt_cmp (pc_dnotin hu pe_w pe_w) hm) (TvS.testB (EvS.mki fun σ F H l g d Q q =>
  hk σ F H l g d _ fun v F1 H1 l1 w1 p1 _ => hd σ F1 H1 l (g.grow w1) (d.grow g.t w1) _ fun u F2 H2 l2 w2 ⟨_, a, ws, h1, h2, h3⟩ _ => by
    refine ⟨a, valV ws k, h1, ?_, ?_⟩
    · rw [hx F1 v p1.2]; exact DGet.k (w2.e a _ h2)
    · refine q _ F2 H2 (w1.trans w2) ?_
      have t := h3.get k
      show V.bl _ = V.bl _
      cases z : kget kvs k with
      | none => rw [z] at t; rw [t]; rfl
      | some y => rw [z] at t; obtain ⟨u, t, _⟩ := t; rw [t]; rfl))
theorem EV.getD {v : β} (hu : X.A.units + 1 < cLine) (hd : EV X b Γ e1 (im (rD S) kvs)) (hk : EV X b Γ e2 (im R x)) (hx : ∀ F v, R.r F v x → v = kV k) (hv : kget kvs k = some v) (hs : NoSl e2 := by exact (fun _ _ => rfl)) : EV X b Γ (.Subscript e1 e2 pos) (im S v) := EV.of (pe_dget hu pe_w pe_w hs) (EvS.mki fun σ F H l g d Q q =>
  hd σ F H l g d _ fun u F1 H1 l1 w1 ⟨_, a, ws, h1, h2, h3⟩ _ => hk σ F1 H1 l (g.grow w1) (d.grow g.t w1) _ fun v' F2 H2 l2 w2 p2 _ => by
    have t := h3.get k
    rw [hv] at t
    obtain ⟨z, t1, t2⟩ := t
    refine ⟨a, z, h1, ?_, q z F2 H2 (w1.trans w2) (S.m w2.f t2)⟩
    rw [hx F2 v' p2.2, ← t1]
    exact DGet.k (w2.h a _ (w1.e a _ h2)))
/-- name = {..}: a dict comprehension that ends in the store of a local name -/
theorem ps_setDc {X : Cx} {i : Nat} {y : Str} {py : Pos} {kx vx tg iter : Expr} {ifs : List Expr} {scope : Scope} {own : List (Str × Nat)} {pos spos : Pos} {wi : TI} {g : TG} {tt : TT} {tk tv : TE} (hcalm : X.calm = true) (hnd : X.N.Nodup) (hy : X.N[i]? = some y) (hloc : X.env.scope.names.lookup y = some .local)
    (hswap : swapsWith (.DictComp kx vx [⟨tg, iter, ifs, 0⟩] scope pos) (some (.Name y py)) spos.line X.env = pure true) (hiter : PI X tg iter wi) (hblk : BlkOk X.N X.env.scope scope own)
    (htg : ∀ (s : Shared) (H : Hp) (C : Addr) (cl : List (Str × Addr)) (fp : List Addr), PG (X.blk s H scope (compEnvC scope cl C X.env) fp) tg g) (htt : ∀ (s : Shared) (H : Hp) (C : Addr) (cl : List (Str × Addr)) (fp : List Addr), PTs (X.blk s H scope (compEnvC scope cl C X.env) fp) ifs tt)
    (hkey : ∀ (s : Shared) (H : Hp) (C : Addr) (cl : List (Str × Addr)) (fp : List Addr), PE (X.blk s H scope (compEnvC scope cl C X.env) fp) kx tk) (hval : ∀ (s : Shared) (H : Hp) (C : Addr) (cl : List (Str × Addr)) (fp : List Addr), PE (X.blk s H scope (compEnvC scope cl C X.env) fp) vx tv)
    (hfold : ∀ x, foldedSetIterable iter X.env x = pure x) : PS X (.Assign [.Name y py] (.DictComp kx vx [⟨tg, iter, ifs, 0⟩] scope pos) spos) (tAsg (tDc wi g tt tk tv (own.map (·.2))) (gName i)) := by
  refine ⟨fun pins s σ H D J hq => ?_⟩
  rw [exec_Assign_Name_used _ _ _ _ hswap]
  refine wpAny_bind (wpAny_standAt (wpAny_bind ?_))
  show wpAny _ X.A (do let _ ← comprehension (.DictComp kx vx [⟨tg, iter, ifs, 0⟩] scope pos) scope X.env (firstIterPos [⟨tg, iter, ifs, 0⟩] pos) newDict false (eval iter X.env) (some (assign (.Name y py) X.env))) _ _ s
  have hq : tDc wi g tt tk tv (own.map (·.2)) σ H (fun x H1 => gName i x σ H1 D.nx) := hq
  refine wpAny_bind (thn (dc_core (Qf := fun _ s' => SP X pins D .next s') hcalm hnd J hiter hblk htg htt hkey hval hfold hq fun L C s' m H' J' done hn f => ?_) fun _ s' z => wpAny_pure (wpAny_pure z))
  show wpAny _ _ (assign (.Name y py) X.env (.ref L)) _ _ _
  refine wpAny_assign_Name (store_ok2 (v := V.ref L) J' hnd hy (.inl hloc) rfl (fun s2 J2 ⟨a, sb, ha⟩ => ?_) (.inr hloc))
  have ne : C ≠ a := by
    rcases ha with z | z
    · rw [z]; exact f.2.1
    · exact fun e => f.2.2.2.2.1 y a z e.symm
  exact ⟨m, hn.sameBut sb ne, fun h3 sb3 => ⟨_, H', J2.turned (t' := s2.toks) (fun b o hb e => (sb3.2 b hb).trans e) f.1 f.2.1 f.2.2.2.1 f.2.2.2.2.1 f.2.2.2.2.2, done⟩⟩
theorem sw_dict {kx vx : Expr} {gs : List Comprehension} {scope : Scope} {pos py : Pos} {y : Str} {l : Nat} {env : Env} (hk : env.scope.kind = .function) (hy : env.scope.names.lookup y = some .local) (hl : (py.line == pos.line) = true)
    (ha : (scope.names.any fun (n, k) => n == y && (k == .local || k == .cell)) = false) : swapsWith (.DictComp kx vx gs scope pos) (some (.Name y py)) l env = pure true := by
  have k1 : env.kindOf y = some .local := hy
  have k2 : env.blockKind = .function := by unfold Env.blockKind; rw [hk]; rfl
  unfold swapsWith
  simp only [k2, k1, ha, Expr.pos, hl]
  rfl
/-- {kx: vx for n in xs} -/
theorem LV.dcL0 (kf : α → Key) (vf : α → β) (hi : IV X b Γ (.Name n np) iter as.length (IL R as)) (nd : X.N.Nodup) (ok : blkC X.N X.env.scope scope [(n, j)] = true) (hm : as.length ≤ 50000)
    (hk : ∀ (b' : Bs) (i : Nat) (a : α) s H0 C cl fp, b'.B = b.B → as[i]? = some a → ∃ (κ : Type) (Rk : Rl κ) (z : κ), EV (X.blk s H0 scope (compEnvC scope cl C X.env) fp) b' (Sb Γ j (mk R a)) kx (im Rk z) ∧ ∀ F v, Rk.r F v z → v = kV (kf a))
    (hv : ∀ (b' : Bs) (i : Nat) (a : α) s H0 C cl fp, b'.B = b.B → as[i]? = some a → EV (X.blk s H0 scope (compEnvC scope cl C X.env) fp) b' (Sb Γ j (mk R a)) vx (im S (vf a)))
    (hg : ∀ (s : Shared) (H0 : Hp) (C : Addr) (cl : List (Str × Addr)) (fp : List Addr), PG (X.blk s H0 scope (compEnvC scope cl C X.env) fp) (.Name n np) (gName j)) (hc : X.calm = true := by rfl) (hf : ∀ x, foldedSetIterable iter X.env x = pure x := by intro _; rfl) :
    LV X b Γ (.DictComp kx vx [⟨.Name n np, iter, [], 0⟩] scope pos) (owD S (as.foldl (fun kvs a => kput kvs (kf a) (vf a)) [])) := by
  obtain ⟨wi, p1, k1⟩ := hi
  refine ⟨_, pe_dc (own := [(n, j)]) (g := gName j) (tt := tYes) (tk := wEb X scope kx) (tv := wEb X scope vx) hc nd p1 (blkOk_by ok) hg (fun _ _ _ _ _ => pts_nil) (fun _ _ _ _ _ => pe_wb) (fun _ _ _ _ _ => pe_wb) hf, fun σ F H l g d Q q => ?_,
    fun i y py spos hi hy hsw => ps_setDc (own := [(n, j)]) (g := gName j) (tt := tYes) (tk := wEb X scope kx) (tv := wEb X scope vx) hc nd hi hy hsw p1 (blkOk_by ok) hg (fun _ _ _ _ _ => pts_nil) (fun _ _ _ _ _ => pe_wb) (fun _ _ _ _ _ => pe_wb) hf⟩
  refine k1 σ F H l g d _ fun J F1 H1 w ⟨G, Y, W, hG, hY⟩ D hD => ?_
  have d1 := d.grow g.t w
  have g1 := g.grow w
  obtain ⟨l2, g2, nd2, sub2⟩ := SgL.put (o' := none) (w := none) (l' := []) trivial List.nodup_nil j g1 d1.nd (fun _ h => nomatch h)
  have sub2 : ∀ a ∈ l2, a ∈ l := fun a ha => by
    rcases sub2 a ha with z | z
    · exact z
    · cases z
  have d2 : Gd ⟨F1, b.B⟩ F1 H1 l2 := d1.self.of_l nd2 fun a ha => ⟨d1.of a (sub2 a ha), d1.ob a (sub2 a ha)⟩
  have nB : b.B D = none := ex_none d1.eb hD
  have nF : F1 D = none := ex_none d1.e hD
  have nl : D ∉ l2 := fun z => g1.t D (sub2 D z) hD
  have c0 : Cv b F1 H1 (Γ.set j none) (σ.set j none) D l2 F1 (upd H1 D (.dK [])) := Cv.upd ⟨g2, d2, Gw.refl d1.e, nl, nB, nF, hD⟩
  -- the walk
  let Pv : Nat → Hp → Prop := fun i H' => ∃ F' ws, Cv b F1 H1 (Γ.set j none) (σ.set j none) D l2 F' H' ∧ H' D = some (.dK ws) ∧ KvR (S.r F') ws ((as.take i).foldl (fun kvs a => kput kvs (kf a) (vf a)) []) ∧ i ≤ as.length ∧ ws.length ≤ i
  refine ⟨fun i m H => m = as.length - i ∧ i ≤ as.length ∧ Pv i H, ⟨as.length, by simp, Nat.zero_le _, F1, [], c0, upd_same, .nil, Nat.zero_le _, Nat.zero_le _⟩, ?_⟩
  rintro i m H' ⟨rfl, hi, F', ws, c, ha, hkv, hi', hlen⟩
  have hGG := hG F' H' c.d.ef c.d.e
  by_cases hlt : i < as.length
  · refine .inr ⟨W.goes i H' hlt hGG, Pv (i + 1), fun H'' p' => ⟨as.length - (i + 1), by omega, rfl, hlt, p'⟩, fun v H'' y => ?_⟩
    have y := W.yields i H' v H'' hlt hGG y
    obtain ⟨F'', y0, w', ⟨a, ha0, rfl⟩, r2⟩ := hY i F' H' v H'' hlt c.d.ef c.d.e y
    have hDn : H' D ≠ none := by rw [ha]; exact fun z => nomatch z
    have c2 := c.grow hDn w'
    have ha2 : H'' D = some (.dK ws) := w'.h D _ ha
    have hD2 : H'' D ≠ none := by rw [ha2]; exact fun z => nomatch z
    refine ⟨(by show ((σ.set j none).set j (some v)).set j none = σ.set j none; rw [List.set_set, List.set_set]), ?_⟩
    simp only [tYes, ↓reduceIte]
    obtain ⟨l3, g3, nd3, sub3⟩ := SgL.put (o' := some (im R a)) (w := some v) (l' := []) ⟨v, rfl, rfl, r2⟩ List.nodup_nil j c2.g c2.d.nd (fun _ h => nomatch h)
    have sub3 : ∀ a ∈ l3, a ∈ l2 := fun a ha => by
      rcases sub3 a ha with z | z
      · exact z
      · cases z
    have d3 : Gd ⟨F1, b.B⟩ F'' H'' l3 := c2.d.of_l nd3 fun a ha => ⟨c2.d.of a (sub3 a ha), c2.d.ob a (sub3 a ha)⟩
    intro s H0 C cl fp
    obtain ⟨κ, Rk, z, he, hz⟩ := hk ⟨F1, b.B⟩ i a s H0 C cl fp rfl ha0
    refine he _ F'' H'' l3 g3 d3 _ fun u F3 H3 l4 w3 p3 _ => ?_
    intro s H0 C cl fp
    refine hv ⟨F1, b.B⟩ i a s H0 C cl fp rfl ha0 _ F3 H3 l3 (g3.grow w3) (d3.grow g3.t w3) _ fun u2 F4 H4 l5 w4 p4 _ => ?_
    have c3 := c2.grow hD2 w3
    have hD3 : H3 D ≠ none := by rw [w3.h D _ ha2]; exact fun z => nomatch z
    have c4 := c3.grow hD3 w4
    have a4 := w4.h D _ (w3.h D _ ha2)
    refine ⟨ws, kf a, hz _ _ p3.2, a4, sz_lt (by omega), F4, putK ws (kf a) u2, c4.upd, upd_same, ?_, hlt, Nat.le_trans (length_putK _ _ _) (by omega)⟩
    have e : as.take (i + 1) = as.take i ++ [a] := by
      rw [List.take_add_one, ha0]; rfl
    rw [e, List.foldl_append]
    exact KvR.put (kf a) p4.2 (hkv.imp fun _ _ => S.m ((w'.f.trans w3.f).trans w4.f))
  · have e : i = as.length := by omega
    subst e
    refine .inl ⟨W.stops H' hGG, q (.ref D) F' H' [D] (w.trans c.w) ⟨D, ws, rfl, rfl, ha, by rw [List.take_length] at hkv; exact hkv⟩ fun a h => by rw [List.mem_singleton.mp h]; exact ⟨ex_none w.h hD, c.nF⟩⟩
theorem kget_put (kvs : List (Key × β)) (k k' : Key) (v : β) : (kget (kput kvs k v) k').isSome = ((kget kvs k').isSome || decide (k = k')) := by
  have hany : ∀ (kvs : List (Key × β)) (k : Key), (kget kvs k).isSome = kvs.any fun kv => decide (kv.1 = k) := by
    intro kvs k
    induction kvs with
    | nil => rfl
    | cons p r ih =>
      by_cases z : p.1 = k
      · simp [kget, List.find?_cons, z]
      · have : kget (p :: r) k = kget r k := by simp [kget, List.find?_cons, z]
        rw [this, ih, List.any_cons]; simp [z]
  rw [hany, hany]
  unfold kput
  split
  · rename_i h
    rw [List.any_map]
    have e : ((fun kv : Key × β => decide (kv.1 = k')) ∘ fun kv => if kv.1 = k then (kv.1, v) else kv) = fun kv => decide (kv.1 = k') := by
      funext kv
      show decide ((if kv.1 = k then (kv.1, v) else kv).1 = k') = _
      split <;> rfl
    rw [e]
    by_cases z : k = k'
    · subst z; simp [h]
    · simp [z]
  · rw [List.any_append]; simp
theorem keys_in (kf : α → Key) (vf : α → β) (k : Key) : ∀ (as : List α) (kvs : List (Key × β)), (kget (as.foldl (fun kvs a => kput kvs (kf a) (vf a)) kvs) k).isSome = ((kget kvs k).isSome || as.any fun a => decide (kf a = k))
  | [], kvs => by simp
  | a :: as, kvs => by rw [List.foldl_cons, keys_in kf vf k as, kget_put, Bool.or_assoc, List.any_cons]
theorem HT.frzD {C : EndC} {sts : List Stmt} (i : Nat) (hΓ : Γ[i]? = some (some (owD S kvs))) (k : HT X b C (Γ.set i (some (im (rD S) kvs))) sts) : HT X b C Γ sts := fun σ F H ⟨l, g, d⟩ => by
  obtain ⟨v, l1, h1, ⟨p, xs, rfl, rfl, h4, h5⟩, h6, h7⟩ := g.frz d.nd hΓ
  have hp := h6 p (List.mem_singleton.mpr rfl)
  have fp := d.of p hp
  obtain ⟨l2, k1, k2, k3⟩ := h7 (upd F p (.dK xs)) (im (rD S) kvs) (Ex.new fp) ⟨rfl, p, xs, rfl, upd_same, h5.imp fun _ _ => S.m (Ex.new fp)⟩
  refine k σ (upd F p (.dK xs)) H ⟨l2, k1, d.ef.trans (Ex.new fp), d.eb, fun a u ha => ?_, fun a q1 q2 => ?_, k2, fun a ha => ?_, fun a ha => d.ob a (k3 a ha).1⟩
  · by_cases z : a = p
    · subst z; rw [upd_same] at ha; rw [h4]; exact ha
    · rw [upd_ne z] at ha; exact d.e a u ha
  · rw [upd_ne fun z => q2 (by rw [z]; exact d.ob p hp)]; exact d.k a q1 q2
  · rw [upd_ne fun z => (k3 a ha).2 (List.mem_singleton.mpr z)]; exact d.of a (k3 a ha).1
end
end Lg

namespace Lg
open PySem L2 Evl PyProof.Rows
/-- some text -/
def anyStr : Sl where
  P := fun _ _ v l => l = [] ∧ ∃ z : Str, v = .str z
  m := fun _ _ h => h
  t := fun h a ha => by rw [h.1] at ha; cases ha
  d := fun h => by rw [h.1]; exact List.nodup_nil
/-- parts of an f-string: some text of a bounded length -/
def JV (X : Cx) (b : Bs) (Γ : Ctx) (es : List Expr) (n : Nat) : Prop := ∃ ts, PJ X es ts ∧ ∀ σ F H l (acc : Str), SgL F H Γ σ l → Gd b F H l → acc.length + n ≤ sizeLine → ∀ Q : Str → Hp → Prop, (∀ z F' H', Gw F H F' H' → Q z H') → tJs ts acc σ H Q
section
variable {X : Cx} {b : Bs} {Γ : Ctx} {e : Expr} {es : List Expr} {n : Nat} {pos : Pos} {i : Int} {z : Str}
theorem str_app_len (x y : Str) : (x ++ y).length = x.length + y.length := by
  show (x.cps ++ y.cps).size = x.cps.size + y.cps.size
  exact Array.size_append
theorem JV.nil : JV X b Γ [] 0 := ⟨[], .nil, fun σ F H l acc g d _ Q q => q acc F H (Gw.refl d.e)⟩
theorem JV.str {j : Nat} (k : JV X b Γ es n) : JV X b Γ (.Constant (.str z) j pos :: es) (z.length + n) := by
  obtain ⟨ts, p, k⟩ := k
  exact ⟨_, .cons pe_str p, fun σ F H l acc g d hl Q q => ⟨z, rfl, by rw [str_app_len]; omega, k σ F H l (acc ++ z) g d (by rw [str_app_len]; omega) Q q⟩⟩
theorem JV.int (h : EV X b Γ e (im rI i)) (hi : i.natAbs.log2 < 1920) (k : JV X b Γ es n) : JV X b Γ (.FormattedValue e (-1) none pos :: es) (1921 + n) := by
  obtain ⟨ts, p, k⟩ := k
  refine ⟨_, .cons (pe_fmt pe_w) p, fun σ F H l acc g d hl Q q => h σ F H l g d _ fun v F1 H1 l1 w p1 _ => .inr ⟨i, p1.2, hi, ?_⟩⟩
  have hb : (toString i : Str).length ≤ 1921 := int_text_len_1921 hi
  exact ⟨_, rfl, by rw [str_app_len]; omega, k σ F1 H1 l _ (g.grow w) (d.grow g.t w) (by rw [str_app_len]; omega) Q fun z F' H' w' => q z F' H' (w.trans w')⟩
theorem JV.txt (h : EV X b Γ e (im rS z)) (hz : z.length ≤ sizeLine) (k : JV X b Γ es n) : JV X b Γ (.FormattedValue e (-1) none pos :: es) (z.length + n) := by
  obtain ⟨ts, p, k⟩ := k
  refine ⟨_, .cons (pe_fmt pe_w) p, fun σ F H l acc g d hl Q q => h σ F H l g d _ fun v F1 H1 l1 w p1 _ => .inl ⟨z, p1.2, hz, ?_⟩⟩
  exact ⟨_, rfl, by rw [str_app_len]; omega, k σ F1 H1 l _ (g.grow w) (d.grow g.t w) (by rw [str_app_len]; omega) Q fun z F' H' w' => q z F' H' (w.trans w')⟩
theorem EV.fstr {v1 v2 : Expr} {rest : List Expr} (k : JV X b Γ (v1 :: v2 :: rest) n) (hn : n ≤ sizeLine) : EV X b Γ (.JoinedStr (v1 :: v2 :: rest) pos) anyStr := by
  obtain ⟨ts, p, k⟩ := k
  exact EV.of (pe_joined p) fun σ F H l g d Q q => k σ F H l Str.empty g d (by rw [show Str.empty.length = 0 from rfl]; omega) _ fun z F' H' w => q _ F' H' [] w ⟨rfl, z, rfl⟩ fun _ h => nomatch h
/-- any text is data enough for a raise -/
theorem EV.strAny (h : EV X b Γ e (im rS z)) : EV X b Γ e anyStr := fun σ F H l g d Q q => h σ F H l g d Q fun v F' H' l' w p f => q v F' H' l' w ⟨p.1, z, p.2⟩ f
end
end Lg

namespace Lg
open PySem L2 Evl PyProof.Rows
/-! ### results that are told by a property -/
def EVR (X : Cx) (b : Bs) (Γ : Ctx) (e : Expr) (post : Sl → Prop) : Prop := ∀ σ F H l, SgL F H Γ σ l → Gd b F H l → ∀ Q : VK, (∀ s v F' H' l', post s → Gw F H F' H' → s.P F' H' v l' → (∀ a ∈ l', H a = none ∧ F' a = none) → Q v H') → wE X e σ H Q
def spR {ι : Type} (A : ι → List Im) (pre : ι → Prop) (post : ι → Sl → Prop) : Sp := fun vs H Q _ => ∃ (i : ι) (F : Hp), Ex F H ∧ Ims F vs (A i) ∧ pre i ∧ ∀ s, post i s → ∀ v F' H' l', Gw F H F' H' → s.P F' H' v l' → (∀ a ∈ l', H a = none ∧ F' a = none) → Q v H'
section
variable {X : Cx} {b : Bs} {C : EndC} {Γ : Ctx} {k : Nat} {x n : Str} {ps : List Str} {ι α β : Type} {A : ι → List Im} {pre : ι → Prop} {post : ι → Sl → Prop} {po : Sl → Prop} {i : ι} {e : Expr} {es : List Expr} {p pos pos' : Pos} {W : WX} {rest : List Stmt}
theorem EVR.call (T : Kn X.prog X.w X.K X.mg X.base k x ps (spR A pre post)) (hr : Room k X.A) (tk : Takes X W) (ha : AV X b Γ (e :: es) (A i)) (hp : pre i) (hg : Gl X x := by rfl)
    (hdb : (x == ("__debug__" : Str)) = false := by decide) (he : starEach (e :: es) X.env = (false, eval e X.env) :: starEach es X.env := by rfl) (hpl : (backTo pos (starEach es X.env)).any (·.1) = false := by rfl) : EVR X b Γ (.Call (.Name x p) (e :: es) [] pos) (post i) := by
  obtain ⟨ta, p1, p2⟩ := ha
  obtain ⟨f, fd, Fn, hm, hk, hb⟩ := T.ex
  refine fun σ F H l g d Q q => wE.of (pe_callS Fn hr hg hm hk hb (fun σ => passAt tk σ) p1 hdb he hpl) (p2 σ F H l g d _ fun vs F1 H1 w hv => ?_)
  refine ⟨i, F1, w.e, hv, hp, fun s hs v F' H' l' w' p f => q s v F' H' l' hs (w.trans w') p fun a ha => ⟨ex_none w.h (f a ha).1, (f a ha).2⟩⟩
theorem HT.setR (j : Nat) (he : EVR X b Γ e po) (k : ∀ s, po s → HT X b C (Γ.set j (some s)) rest) (nd : X.N.Nodup) (hi : X.N[j]? = some n := by rfl) (hx : Loc X.env.scope n := by first | exact Or.inl rfl | exact Or.inr rfl) (hs : swapsWith e (some (.Name n pos')) pos.line X.env = pure false := by rfl)
    (hf : X.fn n = true ∨ X.env.scope.names.lookup n = some .local := by first | exact .inl rfl | exact .inr rfl | assumption) : HT X b C Γ (.Assign [.Name n pos'] e pos :: rest) :=
  HT.step (ps_set nd hi hx pe_w hs hf) fun σ F H ⟨l, g, d⟩ => he σ F H l g d _ fun s v F' H' l' hs w p f => k s hs _ _ _ (Sg.put j g d w p f)
/-- data told in another way -/
theorem HT.cv {R : Rl α} {S : Rl β} {x : α} {y : β} {sts : List Stmt} (j : Nat) (hΓ : Γ[j]? = some (some (im R x))) (h : ∀ F v, R.r F v x → S.r F v y) (k : HT X b C (Γ.set j (some (im S y))) sts) : HT X b C Γ sts := fun σ F H ⟨l, g, d⟩ => by
  obtain ⟨v, l1, h1, ⟨rfl, h2⟩, h3, h4⟩ := g.mod d.nd hΓ
  exact k σ F H ⟨l, h4 H (im S y) (fun _ _ => rfl) ⟨rfl, h F v h2⟩, d⟩
end
section
variable {P : Program} {w : World} {K : PySem.W.Frag} {mg : Str → Option Value} {base : Heap} {x qual : Str} {st : Stmt} {f : Addr} {fd : FuncData} {N ps : List Str} {k : Nat} {ι : Type} {A : ι → List Im} {pre : ι → Prop} {post : ι → Sl → Prop}
theorem fn_okR (F : Fun K x qual st f fd) (S : FnScope N ps (defScope st)) (hA : ∀ i, (A i).length = ps.length)
    (body : ∀ (i : ι) (B : Bs) (cdv : Value) (A' : Around) (outer : List Env) (s : Shared) (H : Hp) (E : XK), pre i → Room k (A'.deeper (envOfC qual (defScope st) s.heap.objs.size f cdv)) →
      HT (cxOf (L2.CX P w) P w K mg base N qual (defScope st) f cdv A' outer s H E) B ⟨fun _ => post i (im rU ()), post i, fun _ => False, fun _ => False⟩ (c0 (A i) (N.length - ps.length)) (defBody st)) :
    FnOk P w K mg base (L2.CX P w) (k + 1) f fd ps (spR A pre post) := by
  refine F.okX S (fun vs H Q E ⟨i, F, _, hv, _⟩ => by rw [hv.len, hA i]) fun cdv A' outer s H vs Q E hr ⟨i, F0, hF, hv, hp, h1⟩ => ⟨_, pss_w, ?_⟩
  have hn : vs.length = ps.length := by rw [hv.len, hA i]
  have g0 : Sg ⟨F0, H⟩ (c0 (A i) (N.length - ps.length)) (L2.start N vs) F0 H := ⟨[], by
    unfold L2.start
    rw [hn]
    exact SgL.args _ hv, Ex.refl _, Ex.refl _, hF, fun _ h _ => h, List.nodup_nil, fun _ h => (nomatch h), fun _ h => nomatch h⟩
  refine wS.mono (body i ⟨F0, H⟩ cdv A' outer s H E hp hr _ F0 H g0) (fun σ' H' h => ?_) (fun v H' h => ?_) (fun _ _ h => ?_) (fun _ _ h => ?_)
  · obtain ⟨Γ, F', ⟨l, _, d⟩, h⟩ := h
    exact h1 (im Lg.rU ()) h .non F' H' [] ⟨d.ef, d.eb, d.e, fun a q1 q2 => d.k a q1 q2⟩ ⟨rfl, rfl⟩ fun _ h => nomatch h
  · obtain ⟨s', F', l, p, d, h⟩ := h
    exact h1 _ h v F' H' l ⟨d.ef, d.eb, d.e, fun a q1 q2 => d.k a q1 q2⟩ p fun a ha => ⟨d.ob a ha, d.of a ha⟩
  · obtain ⟨_, _, _, h⟩ := h; exact h.elim
  · obtain ⟨_, _, _, h⟩ := h; exact h.elim
end
theorem rQ.ofL {α : Type} {R : Rl α} {F : Hp} {v : V} {l : List α} (h : (rL R).r F v l) : (rQ R).r F v (false, l) := ⟨fun z => (nomatch z), fun _ => h⟩
theorem rQ.ofT {α : Type} {R : Rl α} {F : Hp} {v : V} {l : List α} (h : (rT R).r F v l) : (rQ R).r F v (true, l) := ⟨fun _ => h, fun z => (nomatch z)⟩
theorem rL.conv {α β : Type} {R : Rl α} {S : Rl β} {F : Hp} {v : V} (f : α → β) {as : List α} (h : ∀ a ∈ as, ∀ v, R.r F v a → S.r F v (f a)) (k : (rL R).r F v as) : (rL S).r F v (as.map f) := by
  obtain ⟨p, xs, h1, h2, h3⟩ := k
  refine ⟨p, xs, h1, h2, ?_⟩
  clear h2 h1
  induction h3 with
  | nil => exact .nil
  | cons x t ih => exact .cons (h _ List.mem_cons_self _ x) (ih fun a ha => h a (List.mem_cons_of_mem _ ha))
end Lg

namespace Lg
open PySem L2 Evl PyProof.Rows
/-- what never comes -/
def noS : Sl := ⟨fun _ _ _ _ => False, fun _ _ h => h, fun h => h.elim, fun h => h.elim⟩
section
variable {X : Cx} {b : Bs} {D : EndC} {Γ : Ctx} {e e1 e2 : Expr} {es : List Expr} {α β : Type} {R : Rl α} {S : Rl β} {x y : α} {n : Str} {pos p pos' : Pos} {rest : List Stmt} {c : Bool} {ι : Type} {A : ι → List Im} {pre : ι → Prop} {i : ι} {ps : List Str} {k : Nat} {C : Addr} {W : WX} {cx : Str}
theorem HT.exprNo (he : EV X b Γ e noS) (hs : swapsWith e none pos.line X.env = pure false := by rfl) : HT X b D Γ (.Expr e pos :: rest) :=
  HT.step (ps_expr pe_w hs) fun σ F H ⟨l, g, d⟩ => he σ F H l g d _ fun v F' H' l' w p f => p.elim
theorem HT.setNo (j : Nat) (he : EV X b Γ e noS) (nd : X.N.Nodup) (hi : X.N[j]? = some n := by rfl) (hx : Loc X.env.scope n := by first | exact Or.inl rfl | exact Or.inr rfl) (hs : swapsWith e (some (.Name n pos')) pos.line X.env = pure false := by rfl)
    (hf : X.fn n = true ∨ X.env.scope.names.lookup n = some .local := by first | exact .inl rfl | exact .inr rfl | assumption) : HT X b D Γ (.Assign [.Name n pos'] e pos :: rest) :=
  HT.step (ps_set nd hi hx pe_w hs hf) fun σ F H ⟨l, g, d⟩ => he σ F H l g d _ fun v F' H' l' w p f => p.elim
/-- C(..), whatever comes of it -/
theorem EV.makeG {S : Rl β} {s : Sl} {ri : ι → Except Addr β} (T : KnI X.prog X.w X.K X.mg X.base k C cx ps (spI C A pre S ri)) (hr : Room (k + 1) X.A) (tk : Takes X W) (ha : AV X b Γ (e :: es) (A i)) (hp : pre i) (h1 : ∀ y', ri i = .ok y' → im S y' = s) (h2 : ∀ C, ri i = .error C → Xw b Γ W C) (hg : Gl X cx := by rfl)
    (hdb : (cx == ("__debug__" : Str)) = false := by decide) (he : starEach (e :: es) X.env = (false, eval e X.env) :: starEach es X.env := by rfl) (hpl : (backTo pos (starEach es X.env)).any (·.1) = false := by rfl) : EV X b Γ (.Call (.Name cx p) (e :: es) [] pos) s := by
  obtain ⟨ta, p1, p2⟩ := ha
  obtain ⟨f, fd, F, hM, hm, hb⟩ := T.ex
  refine EV.of (pe_makeS hM F hr hg hm hb (fun σ => passAt tk σ) p1 hdb he hpl) fun σ F H l g d Q q => p2 σ F H l g d _ fun vs F1 H1 w hv => ?_
  refine fun x dx hx hdx ne => ⟨i, F1, H1, x, dx, vs, rfl, hx, hdx, ne, rfl, w.e, hv, hp, fun y' hy F' H' w' p => ?_, fun C hC H' h => ?_⟩
  · have e := h1 y' hy
    subst e
    exact ⟨rfl, q _ F' H' [] (w.trans w') ⟨rfl, p⟩ fun _ h => nomatch h⟩
  · have w2 := w.trans (Ex.gw w.e h)
    exact h2 C hC σ F1 H' ⟨l, g.grow w2, d.grow g.t w2⟩
theorem set_same {α : Type} : ∀ {l : List α} {i : Nat} {x : α}, l[i]? = some x → l.set i x = l
  | [], _, _, h => by simp at h
  | a :: l, 0, x, h => by simp at h; subst h; rfl
  | a :: l, i + 1, x, h => by
    show a :: l.set i x = a :: l
    rw [set_same (by simpa using h)]
/-- if e1: name = e2 -/
theorem HT.ifSet {ap : Pos} (j : Nat) (hΓ : Γ[j]? = some (some (im R x))) (h : TV X b Γ e1 c) (h1 : c = true → EV X b Γ e2 (im R y)) (k : HT X b D (Γ.set j (some (im R (if c then y else x)))) rest) (nd : X.N.Nodup) (hi : X.N[j]? = some n := by rfl) (hx : Loc X.env.scope n := by first | exact Or.inl rfl | exact Or.inr rfl) (hs : swapsWith e2 (some (.Name n pos')) ap.line X.env = pure false := by rfl)
    (hf : X.fn n = true ∨ X.env.scope.names.lookup n = some .local := by first | exact .inl rfl | exact .inr rfl | assumption) : HT X b D Γ (.If e1 [.Assign [.Name n pos'] e2 ap] [] pos :: rest) := by
  refine HT.when h (fun hc => HT.set j (h1 hc) (HT.nil ?_) nd hi hx hs hf) fun hc => ?_
  · rw [if_pos hc] at k; exact k
  · rw [if_neg (by rw [hc]; decide), set_same hΓ] at k; exact k
end
end Lg

namespace K6
open PySem L2 Evl Lg
def topS (i : Nat) : Stmt := PySem.Challenge.pw_cellguard_k06_bounds_of_sets.main.body.getD i (.Pass ⟨0, 0, 0, 0⟩)
abbrev sFits : Stmt := topS 4
abbrev sInit : Stmt := inClass (topS 5) 0
abbrev sArcs : Stmt := inClass (topS 5) 1
abbrev sIsFlow : Stmt := topS 6
section
variable {P : Program} {w : World} {K : PySem.W.Frag} {mg : Str → Option Value} {base : Heap}
theorem scFits : FnScope ["nodes", "arc", "tail", "head", "least", "most"] ["nodes", "arc"] (defScope sFits) := ⟨rfl, rfl, rfl, by decide +kernel, rfl, by decide +kernel, by decide +kernel⟩
def fits (n t h l m : Int) : Bool := if (!(decide (0 ≤ t) && decide (t < n)) || (!(decide (0 ≤ h) && decide (h < n)) || decide (t = h))) then false else decide (0 ≤ l) && decide (l ≤ m)
def spFits : Sp := spX (ι := Int × Int × Int × Int × Int) (fun i => [mk rI i.1, mk (rT rI) [i.2.1, i.2.2.1, i.2.2.2.1, i.2.2.2.2]]) (fun _ => True) (fun i => .ok (im rB (fits i.1 i.2.1 i.2.2.1 i.2.2.2.1 i.2.2.2.2)))
theorem ok_fits {f : Addr} {fd : FuncData} (F : Fun K "arc_fits" "arc_fits" sFits f fd) : FnOk P w K mg base (L2.CX P w) 1 f fd ["nodes", "arc"] spFits := by
  refine fn_ok F scFits (fun _ => rfl) fun ⟨n, t, h, l, m⟩ B cdv A' outer s H E _ hr _ => ?_
  have nd := scFits.nd
  conv => arg 5; whnf
  show HT _ _ _ [some (im rI n), some (im (rT rI) [t, h, l, m]), none, none, none, none] _
  refine HT.asg (EV.var 1) (GV.tup (R := rI) (as := [t, h, l, m]) (GsV.cons (GV.name 2 nd) (GsV.cons (GV.name 3 nd) (GsV.cons (GV.name 4 nd) (GsV.cons (GV.name 5 nd) GsV.nil))))) ?_
  refine HT.when (TV.or3 (TV.not (TV.leLt EV.int (EV.var 2) (EV.var 0))) (fun _ => TV.not (TV.leLt EV.int (EV.var 3) (EV.var 0))) (fun _ _ => TV.eqI (EV.var 2) (EV.var 3))) (fun h => HT.ret EV.bl ?_) (fun h => HT.ret (EV.leLe EV.int (EV.var 4) (EV.var 5)) ?_)
  · show Rs.ok _ = Rs.ok _
    rw [fits, if_pos h]
  · show Rs.ok _ = Rs.ok _
    rw [fits, if_neg (by rw [h]; decide)]
end
end K6

namespace K6
open PySem L2 Evl Lg
/-- what the top holds -/
structure Tp (K : PySem.W.Frag) (mg : Str → Option Value) (CI CN : Addr) : Prop where
  rng : mg "range" = none
  len : mg "len" = none
  enu : mg "enumerate" = none
  lst : mg "list" = none
  zip : mg "zip" = none
  any : mg "any" = none
  sum : mg "sum" = none
  abs : mg "abs" = none
  int : mg "int" = none
  max : mg "max" = none
  isi : mg "isinstance" = none
  ei : ErrC K mg "InvalidFlow" CI
  cn : Cls K CN
  nN : NoAttr K CN "nodes"
  nA : NoAttr K CN "_arcs"
section
variable {P : Program} {w : World} {K : PySem.W.Frag} {mg : Str → Option Value} {base : Heap} {CI CN : Addr}
def fitsL (n : Int) : List Int → Bool
  | [t, h, l, m] => fits n t h l m
  | _ => false
def netF (y : Int × List (List Int)) : List (Str × Im) := [("nodes", mk rI y.1), ("_arcs", mk (rL (rT rI)) y.2)]
abbrev rNet (CN : Addr) : Rl (Int × List (List Int)) := rObj CN netF
def Four (arcs : List (List Int)) : Prop := ∀ a ∈ arcs, ∃ t h l m, a = [t, h, l, m]
def spInit (CI CN : Addr) : Sp := spI CN (ι := Int × List (List Int)) (fun i => [mk rI i.1, mk (rL (rT rI)) i.2]) (fun i => Four i.2 ∧ i.2.length ≤ 1000) (rNet CN) (fun i => if i.2.all (fitsL i.1) then .ok i else .error CI)
theorem scInit : FnScope ["self", "nodes", "arcs", "number", "arc"] ["self", "nodes", "arcs"] (defScope sInit) := ⟨rfl, rfl, rfl, by decide +kernel, rfl, by decide +kernel, by decide +kernel⟩
theorem log_small {i : Nat} (h : i ≤ 1000) : ((i : Int)).natAbs.log2 < 1920 := by
  have : ((i : Int)).natAbs = i := by omega
  rw [this]
  refine Nat.lt_of_le_of_lt (Nat.log2_le_self _) (by omega)
theorem ok_init {f : Addr} {fd : FuncData} (F : Fun K "__init__" "Network.__init__" sInit f fd) (T : Tp K mg CI CN) (T1 : Kn P w K mg base 1 "arc_fits" ["nodes", "arc"] spFits) : FnOk P w K mg base (L2.CX P w) 2 f fd ["self", "nodes", "arcs"] (spInit CI CN) := by
  refine fn_init F scInit (fun _ => rfl) fun ⟨n, arcs⟩ B a cdv A' outer s H E ⟨hf, hl⟩ hr hE => ?_
  have nd := scInit.nd
  have hl : arcs.length ≤ 1000 := hl
  have tk : Takes (cxOf (L2.CX P w) P w K mg base ["self", "nodes", "arcs", "number", "arc"] "Network.__init__" (defScope sInit) f cdv A' outer s H E) (fun cls d _ H => E cls d H) := takes_of rfl rfl rfl rfl
  conv => arg 5; whnf
  show HT _ _ _ [some (ob CN a []), some (im rI n), some (im (rL (rT rI)) arcs), none, none] _
  refine HT.for (IV.enum (AV.cons (EV.var 2) AV.nil) T.enu) (fun k Γ => Γ = [some (ob CN a []), some (im rI n), some (im (rL (rT rI)) arcs), none, none] ∧ (arcs.take k).all (fitsL n) = true) ⟨rfl, rfl⟩ ?_ ?_ (passes_of rfl)
  · rintro b' i y Γ' hb hi ⟨x, hx, rfl⟩ ⟨rfl, hall⟩
    obtain ⟨t, h, l, m, rfl⟩ := hf x (List.mem_of_getElem? hx)
    refine ⟨_, GV.pair (GsV.cons (GV.name 3 nd) (GsV.cons (GV.name 4 nd) GsV.nil)), ?_⟩
    refine HT.when (TV.not (TV.val (EV.call (i := (n, t, h, l, m)) T1 (hr.mono (by decide)) tk (AV.cons (EV.var 1) (AV.cons (EV.var 4) AV.nil)) trivial rfl))) (fun hn => ?_) (fun hy => ?_)
    · refine HT.raise T.ei tk (EV.fstr (JV.str (JV.int (EV.var 3) (log_small (by omega)) (JV.str JV.nil))) (by decide)) fun σ F H' g => ?_
      obtain ⟨l', _, d⟩ := g
      refine hE CI ?_ H' (hb ▸ d.eb)
      show (if arcs.all (fitsL n) then _ else _) = _
      rw [if_neg]
      intro hA
      have q := List.all_eq_true.mp hA _ (List.mem_of_getElem? hx)
      rw [show fitsL n [t, h, l, m] = fits n t h l m from rfl] at q
      rw [q] at hn
      exact absurd hn (by decide)
    · refine HT.done (Le.keep (Le.keep (Le.keep (Le.drop (Le.drop Le.nil))))) ⟨rfl, ?_⟩
      rw [List.take_add_one, hx]
      simp only [Option.toList, List.all_append, hall, List.all_cons, List.all_nil, Bool.and_true, Bool.true_and]
      show fits n t h l m = true
      cases q : fits n t h l m with
      | true => rfl
      | false => simp only [q] at hy; exact absurd hy (by decide)
  · rintro Γ' ⟨rfl, hall⟩
    rw [List.take_length] at hall
    refine HT.fld T.cn 0 rfl (EV.var 1) T.nN (by decide) ?_
    refine HT.fld T.cn 0 rfl (EV.fz (EV.listOf (AV.cons (EV.var 2) AV.nil) T.lst)) T.nA (by show 1 < 1000; decide) ?_
    refine HT.nil ⟨(n, arcs), _, ?_, rfl, rfl⟩
    show (if arcs.all (fitsL n) then _ else _) = _
    rw [if_pos hall]
end
end K6

namespace K6
open PySem L2 Evl Lg
abbrev sCross : Stmt := topS 7
abbrev sUpper : Stmt := topS 8
abbrev sLower : Stmt := topS 9
/-! ### what the program reckons -/
def inb (p : List Int × Int) : Bool := match p.1 with
  | [_, _, l, m] => decide (l ≤ p.2) && decide (p.2 ≤ m)
  | _ => false
def surStep (s : List Int) (p : List Int × Int) : List Int := match p.1 with
  | [t, h, _, _] =>
    let s1 := s.set h.toNat (s.getD h.toNat 0 + p.2)
    s1.set t.toNat (s1.getD t.toNat 0 - p.2)
  | _ => s
def isFlow (n : Int) (arcs : List (List Int)) (vs : List Int) : Bool :=
  decide (vs.length = arcs.length) && ((arcs.zip vs).all inb && !((arcs.zip vs).foldl surStep (List.replicate n.toNat [0]).flatten).any (· != 0))
def isE (mem : List Int) : List Int → Bool
  | [t, h, _, _] => decide (h ∈ mem) && !decide (t ∈ mem)
  | _ => false
def isL (mem : List Int) : List Int → Bool
  | [t, h, _, _] => decide (t ∈ mem) && !decide (h ∈ mem)
  | _ => false
/-- the numbers of the arcs that a test takes, of the first k -/
def nums (p : List Int → Bool) (arcs : List (List Int)) (k : Nat) : List Int := ((List.range k).filter fun i => p (arcs.getD i [])).map fun (i : Nat) => (i : Int)
theorem nums_len (p : List Int → Bool) (arcs : List (List Int)) (k : Nat) : (nums p arcs k).length ≤ k := by
  unfold nums
  rw [List.length_map]
  refine Nat.le_trans (List.length_filter_le _ _) ?_
  rw [List.length_range]; exact Nat.le_refl _
theorem nums_yes {p : List Int → Bool} {arcs : List (List Int)} {k : Nat} {a : List Int} (ha : arcs[k]? = some a) (h : p a = true) : nums p arcs (k + 1) = nums p arcs k ++ [(k : Int)] := by
  unfold nums
  have e : arcs.getD k [] = a := by rw [List.getD_eq_getElem?_getD, ha]; rfl
  rw [List.range_succ, List.filter_append, List.map_append, List.filter_cons, e, if_pos h]; rfl
theorem nums_no {p : List Int → Bool} {arcs : List (List Int)} {k : Nat} {a : List Int} (ha : arcs[k]? = some a) (h : p a = false) : nums p arcs (k + 1) = nums p arcs k := by
  unfold nums
  have e : arcs.getD k [] = a := by rw [List.getD_eq_getElem?_getD, ha]; rfl
  rw [List.range_succ, List.filter_append, List.map_append, List.filter_cons, e, if_neg (by rw [h]; decide)]
  simp
theorem nums_mem {p : List Int → Bool} {arcs : List (List Int)} {k : Nat} {j : Int} (h : j ∈ nums p arcs k) : ∃ i, j = (i : Nat) ∧ i < k ∧ p (arcs.getD i []) = true := by
  unfold nums at h
  obtain ⟨i, hi, rfl⟩ := List.mem_map.mp h
  obtain ⟨h1, h2⟩ := List.mem_filter.mp hi
  exact ⟨i, rfl, List.mem_range.mp h1, h2⟩
/-- a network whose arcs are right -/
structure NetOk (y : Int × List (List Int)) : Prop where
  four : Four y.2
  fit : ∀ a ∈ y.2, fitsL y.1 a = true
  lenA : y.2.length ≤ 1000
  lenN : 0 ≤ y.1 ∧ y.1 ≤ 1000
theorem gd {l : List Int} {j : Nat} (h : j < l.length) : l[j]? = some (l.getD j 0) := by
  rw [List.getD_eq_getElem?_getD, List.getElem?_eq_getElem h]; rfl
theorem fits_of {n t h l m : Int} (q : fits n t h l m = true) : (0 ≤ t ∧ t < n) ∧ (0 ≤ h ∧ h < n) ∧ t ≠ h ∧ 0 ≤ l ∧ l ≤ m := by
  unfold fits at q
  split at q
  · cases q
  · rename_i z
    simp only [Bool.or_eq_true, Bool.not_eq_true', Bool.and_eq_false_imp, decide_eq_true_eq, not_or, Bool.and_eq_true] at z q
    simp at z
    exact ⟨by omega, by omega, by omega, q.1, q.2⟩
section
variable {P : Program} {w : World} {K : PySem.W.Frag} {mg : Str → Option Value} {base : Heap} {CI CN : Addr}
theorem scArcs : FnScope ["self"] ["self"] (defScope sArcs) := ⟨rfl, rfl, rfl, by decide +kernel, rfl, by decide +kernel, by decide +kernel⟩
def spArcs (CN : Addr) : Sp := spX (ι := Int × List (List Int)) (fun i => [mk (rNet CN) i]) (fun _ => True) (fun i => .ok (ow (rT rI) i.2))
theorem ok_arcs {f : Addr} {fd : FuncData} (F : Fun K "arcs" "Network.arcs" sArcs f fd) (T : Tp K mg CI CN) : FnOk P w K mg base (L2.CX P w) 1 f fd ["self"] (spArcs CN) := by
  refine fn_ok F scArcs (fun _ => rfl) fun i B cdv A' outer s H E _ hr _ => ?_
  conv => arg 5; whnf
  show HT _ _ _ [some (im (rNet CN) i)] _
  exact HT.ret (EV.listOf (AV.cons (EV.fld (fs := netF) T.cn (EV.var 0) rfl T.nA) AV.nil) T.lst) rfl
theorem scIsFlow : FnScope ["network", "values", "arcs", "surplus", "tail", "head", "least", "most", "value"] ["network", "values"] (defScope sIsFlow) := ⟨rfl, rfl, rfl, by decide +kernel, rfl, by decide +kernel, by decide +kernel⟩
def spIsFlow (CN : Addr) : Sp := spX (ι := (Int × List (List Int)) × List Int) (fun i => [mk (rNet CN) i.1, mk (rL rI) i.2]) (fun i => NetOk i.1) (fun i => .ok (im rB (isFlow i.1.1 i.1.2 i.2)))
theorem rep0 (n : Nat) : (List.replicate n [(0 : Int)]).flatten = List.replicate n 0 := by
  induction n with
  | zero => rfl
  | succ n ih => rw [List.replicate_succ, List.flatten_cons, ih]; rfl
theorem sur_len (l : List (List Int × Int)) : ∀ s : List Int, (l.foldl surStep s).length = s.length := by
  induction l with
  | nil => exact fun _ => rfl
  | cons p l ih =>
    intro s
    rw [List.foldl_cons, ih]
    unfold surStep
    split
    · simp
    · rfl
theorem ixN_of {n : Nat} {h : Int} (h0 : 0 ≤ h) (h1 : h < n) : ixN n h = some h.toNat := by
  unfold ixN
  rw [if_pos h0, if_pos h1]
theorem ok_isFlow {f : Addr} {fd : FuncData} (F : Fun K "is_flow" "is_flow" sIsFlow f fd) (T : Tp K mg CI CN) (TA : KnM P w K mg base 1 CN "arcs" ["self"] (spArcs CN)) : FnOk P w K mg base (L2.CX P w) 2 f fd ["network", "values"] (spIsFlow CN) := by
  refine fn_ok F scIsFlow (fun _ => rfl) fun ⟨⟨n, arcs⟩, vs⟩ B cdv A' outer s H E hp hr _ => ?_
  have nd := scIsFlow.nd
  have tk : Takes (cxOf (L2.CX P w) P w K mg base ["network", "values", "arcs", "surplus", "tail", "head", "least", "most", "value"] "is_flow" (defScope sIsFlow) f cdv A' outer s H E) (fun cls d _ H => E cls d H) := takes_of rfl rfl rfl rfl
  conv => arg 5; whnf
  show HT _ _ _ [some (im (rNet CN) (n, arcs)), some (im (rL rI) vs), none, none, none, none, none, none, none] _
  have hn : 0 ≤ n ∧ n ≤ 1000 := hp.lenN
  refine HT.set 2 (EV.fz (EV.meth0 (i := (n, arcs)) TA (hr.mono (by decide)) tk (EV.var 0) (fun F v h => rObj.no h rfl) rfl trivial rfl)) ?_ nd
  refine HT.when (TV.neI (EV.lenL (AV.cons (EV.var 1) AV.nil) T.len) (EV.lenL (AV.cons (EV.var 2) AV.nil) T.len)) (fun h => ?_) (fun h => ?_)
  · refine HT.ret EV.bl ?_
    show Rs.ok _ = Rs.ok _
    have : ¬ vs.length = arcs.length := by
      intro e
      simp [e] at h
    unfold isFlow
    rw [decide_eq_false this]; rfl
  have hlen : vs.length = arcs.length := by
    simp at h
    omega
  refine HT.set 3 (EV.rep (EV.fz (EV.lst (R := rI) (as := [0]) (AV.cons EV.int AV.nil) rfl (by decide))) (EV.fld (fs := netF) (S := rI) (y := n) T.cn (EV.var 0) rfl T.nN) (by simp; omega) (by omega)) ?_ nd
  refine HT.for (IV.zip (AV.cons (EV.var 2) (AV.cons (EV.var 1) AV.nil)) hlen.symm T.zip) (fun k Γ => Γ = [some (im (rNet CN) (n, arcs)), some (im (rL rI) vs), some (im (rL (rT rI)) arcs), some (ow rI (((arcs.zip vs).take k).foldl surStep (List.replicate n.toNat [0]).flatten)), none, none, none, none, none] ∧ ((arcs.zip vs).take k).all inb = true) ⟨rfl, rfl⟩ ?_ ?_ (passes_of rfl)
  · rintro b' i y Γ' hb hi ⟨x, v, hx, hv, rfl⟩ ⟨rfl, hall⟩
    obtain ⟨t, h, l, m, rfl⟩ := hp.four x (List.mem_of_getElem? hx)
    obtain ⟨⟨t0, t1⟩, ⟨h0, h1⟩, _, _, _⟩ := fits_of (hp.fit _ (List.mem_of_getElem? hx))
    have t1 : t < n := t1
    have h1 : h < n := h1
    have hz : (arcs.zip vs)[i]? = some ([t, h, l, m], v) := by
      rw [List.getElem?_zip_eq_some]; exact ⟨hx, hv⟩
    have ht1 : (arcs.zip vs).take (i + 1) = (arcs.zip vs).take i ++ [([t, h, l, m], v)] := by rw [List.take_add_one, hz]; rfl
    refine ⟨_, GV.pair (GsV.cons (GV.tup (R := rI) (as := [t, h, l, m]) (GsV.cons (GV.name 4 nd) (GsV.cons (GV.name 5 nd) (GsV.cons (GV.name 6 nd) (GsV.cons (GV.name 7 nd) GsV.nil))))) (GsV.cons (GV.name 8 nd) GsV.nil)), ?_⟩
    refine HT.when (TV.not (TV.leLe (EV.var 6) (EV.var 8) (EV.var 7))) (fun hn => ?_) (fun hy => ?_)
    · refine HT.ret EV.bl ?_
      show Rs.ok _ = Rs.ok _
      have e : (arcs.zip vs).all inb = false := by
        refine Bool.eq_false_iff.mpr fun hA => ?_
        have q := List.all_eq_true.mp hA _ (List.mem_of_getElem? hz)
        have q : (decide (l ≤ v) && decide (v ≤ m)) = true := q
        rw [q] at hn
        exact absurd hn (by decide)
      unfold isFlow
      rw [e]; simp
    · have hs := sur_len ((arcs.zip vs).take i) (List.replicate n.toNat [0]).flatten
      rw [rep0, List.length_replicate] at hs
      refine HT.augI ip_add 3 rfl (EV.var 5) (EV.var 8) (m := h.toNat) (a := (((arcs.zip vs).take i).foldl surStep (List.replicate n.toNat [0]).flatten).getD h.toNat 0) (ixN_of h0 (by rw [rep0, hs]; omega)) ?_ ?_ (hg := get_list)
      · exact gd (by rw [rep0, hs]; omega)
      refine HT.augI ip_sub 3 rfl (EV.var 4) (EV.var 8) (m := t.toNat) (a := ((((arcs.zip vs).take i).foldl surStep (List.replicate n.toNat [0]).flatten).set h.toNat ((((arcs.zip vs).take i).foldl surStep (List.replicate n.toNat [0]).flatten).getD h.toNat 0 + v)).getD t.toNat 0) (ixN_of t0 (by rw [List.length_set, rep0, hs]; omega)) ?_ ?_ (hg := get_list)
      · exact gd (by show _ < (List.set _ _ _).length; rw [List.length_set, rep0, hs]; omega)
      refine HT.done (Le.keep (Le.keep (Le.keep (Le.keep (Le.drop (Le.drop (Le.drop (Le.drop (Le.drop Le.nil))))))))) ⟨?_, ?_⟩
      · rw [ht1, List.foldl_append]; rfl
      · rw [ht1, List.all_append, hall]
        simp only [List.all_cons, List.all_nil, Bool.and_true, Bool.true_and]
        show (decide (l ≤ v) && decide (v ≤ m)) = true
        cases q : (decide (l ≤ v) && decide (v ≤ m)) with
        | true => rfl
        | false => simp only [q] at hy; exact absurd hy (by decide)
  · rintro Γ' ⟨rfl, hall⟩
    have e : (arcs.zip vs).take arcs.length = arcs.zip vs := by
      rw [List.take_of_length_le]
      rw [List.length_zip]; omega
    rw [e] at hall ⊢
    refine HT.frz 3 rfl ?_
    refine HT.ret (EV.notV (EV.anyI (AV.cons (EV.var 3) AV.nil) T.any)) ?_
    show Rs.ok _ = Rs.ok _
    unfold isFlow
    rw [hall, decide_eq_true hlen]; rfl
end
end K6

namespace K6
open PySem L2 Evl Lg
abbrev setD (mem : List Int) : List (Key × Bool) := mem.foldl (fun kvs a => kput kvs (Sum.inl a : Key) true) []
theorem kin (mem : List Int) (k : Int) : (kget (setD mem) (Sum.inl k)).isSome = decide (k ∈ mem) := by
  rw [keys_in (fun a : Int => (Sum.inl a : Key)) (fun _ => true) (Sum.inl k) mem []]
  show (false || _) = _
  rw [Bool.false_or, Bool.eq_iff_iff, List.any_eq_true, decide_eq_true_eq]
  exact ⟨fun ⟨a, h1, h2⟩ => by have := Sum.inl.inj (of_decide_eq_true h2); rw [← this]; exact h1, fun h => ⟨k, h, by simp⟩⟩
def upVal (arcs : List (List Int)) (arc : Int) (mem : List Int) : Int :=
  ((nums (isL mem) arcs arcs.length).map fun j => (arcs.getD j.toNat []).getD 3 0).sum - (((nums (isE mem) arcs arcs.length).filter fun j => !decide (j = arc)).map fun j => (arcs.getD j.toNat []).getD 2 0).sum
def loVal (arcs : List (List Int)) (arc : Int) (mem : List Int) : Int :=
  ((nums (isE mem) arcs arcs.length).map fun j => (arcs.getD j.toNat []).getD 2 0).sum - (((nums (isL mem) arcs arcs.length).filter fun j => !decide (j = arc)).map fun j => (arcs.getD j.toNat []).getD 3 0).sum
section
variable {P : Program} {w : World} {K : PySem.W.Frag} {mg : Str → Option Value} {base : Heap} {CI CN : Addr}
abbrev nCross : List Str := ["network", "members", "inside", "entering", "leaving", "number", "tail", "head", "least", "most", "node"]
theorem scCross : FnScope nCross ["network", "members"] (defScope sCross) := ⟨rfl, rfl, rfl, by decide +kernel, rfl, by decide +kernel, by decide +kernel⟩
def spCross (CN : Addr) : Sp := spX (ι := (Int × List (List Int)) × List Int) (fun i => [mk (rNet CN) i.1, mk (rL rI) i.2]) (fun i => NetOk i.1 ∧ i.2.length ≤ 1000) (fun i => .ok (im (rP (rL rI) (rL rI)) (nums (isE i.2) i.1.2 i.1.2.length, nums (isL i.2) i.1.2 i.1.2.length)))
theorem ok_cross {f : Addr} {fd : FuncData} (F : Fun K "crossing_arcs" "crossing_arcs" sCross f fd) (T : Tp K mg CI CN) (TA : KnM P w K mg base 1 CN "arcs" ["self"] (spArcs CN)) : FnOk P w K mg base (L2.CX P w) 2 f fd ["network", "members"] (spCross CN) := by
  refine fn_ok F scCross (fun _ => rfl) fun ⟨⟨n, arcs⟩, mem⟩ B cdv A' outer s H E ⟨hp, hm⟩ hr _ => ?_
  have nd := scCross.nd
  have hu := hu_of hr
  have tk : Takes (cxOf (L2.CX P w) P w K mg base nCross "crossing_arcs" (defScope sCross) f cdv A' outer s H E) (fun cls d _ H => E cls d H) := takes_of rfl rfl rfl rfl
  conv => arg 5; whnf
  show HT _ _ _ [some (im (rNet CN) (n, arcs)), some (im (rL rI) mem), none, none, none, none, none, none, none, none, none] _
  have hm : mem.length ≤ 1000 := hm
  have hla : arcs.length ≤ 1000 := hp.lenA
  refine HT.setC 2 (LV.dcL0 (j := 10) (S := rB) (fun a : Int => (Sum.inl a : Key)) (fun _ => true) (IV.list (EV.var 1)) nd (by show blkC nCross (defScope sCross) _ [("node", 10)] = true; decide +kernel) (by omega) (fun b' i a s H0 C cl fp hb ha => ⟨Int, rI, a, EV.var 10, fun _ _ h => h⟩) (fun b' i a s H0 C cl fp hb ha => EV.bl) (fun _ _ _ _ _ => pg_name nd rfl (Or.inl rfl))) ?_ (sw_dict rfl rfl rfl (by decide +kernel))
  refine HT.set 3 (EV.lst (R := rI) (as := []) AV.nil rfl (by decide)) ?_ nd
  refine HT.set 4 (EV.lst (R := rI) (as := []) AV.nil rfl (by decide)) ?_ nd
  refine HT.frzD 2 rfl ?_
  refine HT.for (IV.enum (AV.cons (EV.fz (EV.meth0 (i := (n, arcs)) TA (hr.mono (by decide)) tk (EV.var 0) (fun F v h => rObj.no h rfl) rfl trivial rfl)) AV.nil) T.enu)
    (fun k Γ => Γ = [some (im (rNet CN) (n, arcs)), some (im (rL rI) mem), some (im (rD rB) (setD mem)), some (ow rI (nums (isE mem) arcs k)), some (ow rI (nums (isL mem) arcs k)), none, none, none, none, none, none]) rfl ?_ ?_ (passes_of rfl)
  · rintro b' i y Γ' hb hi ⟨x, hx, rfl⟩ rfl
    have hi : i < arcs.length := hi
    have hx : arcs[i]? = some x := hx
    obtain ⟨t, h, l, m, rfl⟩ := hp.four x (List.mem_of_getElem? hx)
    have l1 := nums_len (isE mem) arcs i
    have l2 := nums_len (isL mem) arcs i
    refine ⟨_, GV.pair (GsV.cons (GV.name 5 nd) (GsV.cons (GV.tup (R := rI) (as := [t, h, l, m]) (GsV.cons (GV.name 6 nd) (GsV.cons (GV.name 7 nd) (GsV.cons (GV.name 8 nd) (GsV.cons (GV.name 9 nd) GsV.nil))))) GsV.nil)), ?_⟩
    have le : ∀ {a b c d : Option Sl} {c1 c2 c3 c4 c5 c6 : Option Sl}, Le [a, b, c, d, c1, c2, c3, c4, c5, c6, none] [a, b, c, d, c1, none, none, none, none, none, none] := Le.keep (Le.keep (Le.keep (Le.keep (Le.keep (Le.drop (Le.drop (Le.drop (Le.drop (Le.drop (Le.keep Le.nil))))))))))
    refine HT.ite (TV.and (TV.inD (k := Sum.inl h) hu (EV.var 7) (fun _ _ h => h) (EV.var 2)) fun _ => TV.ninD (k := Sum.inl t) hu (EV.var 6) (fun _ _ h => h) (EV.var 2)) (fun hy => ?_) (fun hn => ?_)
    · rw [kin, kin] at hy
      refine HT.append 3 rfl (EV.var 5) (by omega) ?_
      refine HT.nil (HT.done le ?_)
      have e2 : isL mem [t, h, l, m] = false := by
        simp only [Bool.and_eq_true, Bool.not_eq_true', decide_eq_true_eq, decide_eq_false_iff_not] at hy
        show (decide (t ∈ mem) && !decide (h ∈ mem)) = false
        simp [hy.1, hy.2]
      rw [nums_yes hx hy, nums_no hx e2]
    · rw [kin, kin] at hn
      refine HT.when (TV.and (TV.inD (k := Sum.inl t) hu (EV.var 6) (fun _ _ h => h) (EV.var 2)) fun _ => TV.ninD (k := Sum.inl h) hu (EV.var 7) (fun _ _ h => h) (EV.var 2)) (fun hy => ?_) (fun hn2 => ?_)
      · rw [kin, kin] at hy
        refine HT.append 4 rfl (EV.var 5) (by omega) ?_
        refine HT.nil (HT.nil (HT.done le ?_))
        rw [nums_no hx hn, nums_yes hx hy]
      · rw [kin, kin] at hn2
        refine HT.nil (HT.done le ?_)
        rw [nums_no hx hn, nums_no hx hn2]
  · rintro Γ' rfl
    refine HT.frz 3 rfl ?_
    refine HT.frz 4 rfl ?_
    exact HT.ret (EV.pair (AV.cons (EV.var 3) (AV.cons (EV.var 4) AV.nil))) rfl
/-! the bounds -/
theorem item_at {arcs : List (List Int)} {n : Int} (hp : NetOk (n, arcs)) {p : List Int → Bool} {j : Int} (hj : j ∈ nums p arcs arcs.length) : ∃ t h l m, atI arcs j = some [t, h, l, m] ∧ arcs.getD j.toNat [] = [t, h, l, m] := by
  obtain ⟨i, rfl, hi, _⟩ := nums_mem hj
  have ha : arcs[i]? = some arcs[i] := List.getElem?_eq_getElem hi
  obtain ⟨t, h, l, m, e⟩ := hp.four _ (List.mem_of_getElem? ha)
  rw [e] at ha
  refine ⟨t, h, l, m, atI_nat ha, ?_⟩
  rw [show ((i : Int)).toNat = i by omega, List.getD_eq_getElem?_getD, ha]; rfl
abbrev nUp : List Str := ["network", "arc", "members", "entering", "leaving", "arcs", "most_out", "number"]
theorem scUp : FnScope nUp ["network", "arc", "members"] (defScope sUpper) := ⟨rfl, rfl, rfl, by decide +kernel, rfl, by decide +kernel, by decide +kernel⟩
def spUp (CI CN : Addr) : Sp := spX (ι := (Int × List (List Int)) × Int × List Int) (fun i => [mk (rNet CN) i.1, mk rI i.2.1, mk (rL rI) i.2.2]) (fun i => NetOk i.1 ∧ (0 ≤ i.2.1 ∧ i.2.1 ≤ 1000) ∧ i.2.2.length ≤ 1000)
  (fun i => if i.2.1 ∈ nums (isE i.2.2) i.1.2 i.1.2.length then .ok (im rI (upVal i.1.2 i.2.1 i.2.2)) else .err CI)
theorem ok_up {f : Addr} {fd : FuncData} (F : Fun K "upper_bound" "upper_bound" sUpper f fd) (T : Tp K mg CI CN) (TA : KnM P w K mg base 1 CN "arcs" ["self"] (spArcs CN)) (TC : Kn P w K mg base 2 "crossing_arcs" ["network", "members"] (spCross CN)) : FnOk P w K mg base (L2.CX P w) 3 f fd ["network", "arc", "members"] (spUp CI CN) := by
  refine fn_ok F scUp (fun _ => rfl) fun ⟨⟨n, arcs⟩, arc, mem⟩ B cdv A' outer s H E ⟨hp, ⟨ha0, ha1⟩, hm⟩ hr hE => ?_
  have nd := scUp.nd
  have tk : Takes (cxOf (L2.CX P w) P w K mg base nUp "upper_bound" (defScope sUpper) f cdv A' outer s H E) (fun cls d _ H => E cls d H) := takes_of rfl rfl rfl rfl
  conv => arg 5; whnf
  have ha0 : 0 ≤ arc := ha0
  have ha1 : arc ≤ 1000 := ha1
  have hla : arcs.length ≤ 1000 := hp.lenA
  have lE := nums_len (isE mem) arcs arcs.length
  have lL := nums_len (isL mem) arcs arcs.length
  have hlog : arc.natAbs.log2 < 1920 := by
    have := log_small (i := arc.toNat) (by omega)
    rwa [show ((arc.toNat : Int)) = arc by omega] at this
  show HT _ _ _ [some (im (rNet CN) (n, arcs)), some (im rI arc), some (im (rL rI) mem), none, none, none, none, none] _
  refine HT.asg (EV.call (i := ((n, arcs), mem)) TC (hr.mono (by decide)) tk (AV.cons (EV.var 0) (AV.cons (EV.var 2) AV.nil)) ⟨hp, hm⟩ rfl) (GV.pair (GsV.cons (GV.name 3 nd) (GsV.cons (GV.name 4 nd) GsV.nil))) ?_
  refine HT.when (TV.ninI (EV.var 1) (EV.var 3)) (fun hn => ?_) (fun hy => ?_)
  · refine HT.raise T.ei tk (EV.fstr (JV.str (JV.int (EV.var 1) hlog (JV.str JV.nil))) (by decide)) fun σ F H' ⟨l', _, d⟩ => hE CI ?_ H' d.eb
    have hn : ¬ arc ∈ nums (isE mem) arcs arcs.length := by simpa using hn
    show (if arc ∈ nums (isE mem) arcs arcs.length then _ else _) = _
    rw [if_neg hn]
  have hy : arc ∈ nums (isE mem) arcs arcs.length := by simpa using hy
  refine HT.set 5 (EV.fz (EV.meth0 (i := (n, arcs)) TA (hr.mono (by decide)) tk (EV.var 0) (fun F v h => rObj.no h rfl) rfl trivial rfl)) ?_ nd
  refine HT.set 6 (EV.sum (AV.cons (EV.fz (LV.ev (LV.lcL0 (j := 7) (S := rI) (fun j : Int => (arcs.getD j.toNat []).getD 3 0) (IV.list (EV.var 4)) nd (by show blkC nUp (defScope sUpper) _ [("number", 7)] = true; decide +kernel) (Nat.le_trans lL (Nat.le_trans hla (by decide))) (fun b' i a s H0 C cl fp hb ha => ?_) (fun _ _ _ _ _ => pg_name nd rfl (Or.inl rfl))))) AV.nil) T.sum) ?_ nd
  · obtain ⟨t, h, l, m, e1, e2⟩ := item_at hp (List.mem_of_getElem? ha)
    rw [e2]
    exact EV.ixT (EV.ixL (EV.var 5) (EV.var 7) e1) EV.int rfl
  refine HT.ret (EV.sub (EV.var 6) (EV.sum (AV.cons (EV.fz (LV.ev (LV.lcL1 (j := 7) (S := rI) (fun j : Int => !decide (j = arc)) (fun j : Int => (arcs.getD j.toNat []).getD 2 0) (IV.list (EV.var 3)) nd (by show blkC nUp (defScope sUpper) _ [("number", 7)] = true; decide +kernel) (Nat.le_trans lE (Nat.le_trans hla (by decide))) (fun b' i a s H0 C cl fp hb ha => TV.neI (EV.var 7) (EV.var 1)) (fun b' i a s H0 C cl fp hb ha hne => ?_) (fun _ _ _ _ _ => pg_name nd rfl (Or.inl rfl))))) AV.nil) T.sum)) ?_
  · obtain ⟨t, h, l, m, e1, e2⟩ := item_at hp (List.mem_of_getElem? ha)
    rw [e2]
    exact EV.ixT (EV.ixL (EV.var 5) (EV.var 7) e1) EV.int rfl
  · show (if arc ∈ nums (isE mem) arcs arcs.length then _ else _) = _
    rw [if_pos hy]; rfl
abbrev nLo : List Str := ["network", "arc", "members", "entering", "leaving", "arcs", "least_in", "number"]
theorem scLo : FnScope nLo ["network", "arc", "members"] (defScope sLower) := ⟨rfl, rfl, rfl, by decide +kernel, rfl, by decide +kernel, by decide +kernel⟩
def spLo (CI CN : Addr) : Sp := spX (ι := (Int × List (List Int)) × Int × List Int) (fun i => [mk (rNet CN) i.1, mk rI i.2.1, mk (rL rI) i.2.2]) (fun i => NetOk i.1 ∧ (0 ≤ i.2.1 ∧ i.2.1 ≤ 1000) ∧ i.2.2.length ≤ 1000)
  (fun i => if i.2.1 ∈ nums (isL i.2.2) i.1.2 i.1.2.length then .ok (im rI (loVal i.1.2 i.2.1 i.2.2)) else .err CI)
theorem ok_lo {f : Addr} {fd : FuncData} (F : Fun K "lower_bound" "lower_bound" sLower f fd) (T : Tp K mg CI CN) (TA : KnM P w K mg base 1 CN "arcs" ["self"] (spArcs CN)) (TC : Kn P w K mg base 2 "crossing_arcs" ["network", "members"] (spCross CN)) : FnOk P w K mg base (L2.CX P w) 3 f fd ["network", "arc", "members"] (spLo CI CN) := by
  refine fn_ok F scLo (fun _ => rfl) fun ⟨⟨n, arcs⟩, arc, mem⟩ B cdv A' outer s H E ⟨hp, ⟨ha0, ha1⟩, hm⟩ hr hE => ?_
  have nd := scLo.nd
  have tk : Takes (cxOf (L2.CX P w) P w K mg base nLo "lower_bound" (defScope sLower) f cdv A' outer s H E) (fun cls d _ H => E cls d H) := takes_of rfl rfl rfl rfl
  conv => arg 5; whnf
  have ha0 : 0 ≤ arc := ha0
  have ha1 : arc ≤ 1000 := ha1
  have hla : arcs.length ≤ 1000 := hp.lenA
  have lE := nums_len (isE mem) arcs arcs.length
  have lL := nums_len (isL mem) arcs arcs.length
  have hlog : arc.natAbs.log2 < 1920 := by
    have := log_small (i := arc.toNat) (by omega)
    rwa [show ((arc.toNat : Int)) = arc by omega] at this
  show HT _ _ _ [some (im (rNet CN) (n, arcs)), some (im rI arc), some (im (rL rI) mem), none, none, none, none, none] _
  refine HT.asg (EV.call (i := ((n, arcs), mem)) TC (hr.mono (by decide)) tk (AV.cons (EV.var 0) (AV.cons (EV.var 2) AV.nil)) ⟨hp, hm⟩ rfl) (GV.pair (GsV.cons (GV.name 3 nd) (GsV.cons (GV.name 4 nd) GsV.nil))) ?_
  refine HT.when (TV.ninI (EV.var 1) (EV.var 4)) (fun hn => ?_) (fun hy => ?_)
  · refine HT.raise T.ei tk (EV.fstr (JV.str (JV.int (EV.var 1) hlog (JV.str JV.nil))) (by decide)) fun σ F H' ⟨l', _, d⟩ => hE CI ?_ H' d.eb
    have hn : ¬ arc ∈ nums (isL mem) arcs arcs.length := by simpa using hn
    show (if arc ∈ nums (isL mem) arcs arcs.length then _ else _) = _
    rw [if_neg hn]
  have hy : arc ∈ nums (isL mem) arcs arcs.length := by simpa using hy
  refine HT.set 5 (EV.fz (EV.meth0 (i := (n, arcs)) TA (hr.mono (by decide)) tk (EV.var 0) (fun F v h => rObj.no h rfl) rfl trivial rfl)) ?_ nd
  refine HT.set 6 (EV.sum (AV.cons (EV.fz (LV.ev (LV.lcL0 (j := 7) (S := rI) (fun j : Int => (arcs.getD j.toNat []).getD 2 0) (IV.list (EV.var 3)) nd (by show blkC nLo (defScope sLower) _ [("number", 7)] = true; decide +kernel) (Nat.le_trans lE (Nat.le_trans hla (by decide))) (fun b' i a s H0 C cl fp hb ha => ?_) (fun _ _ _ _ _ => pg_name nd rfl (Or.inl rfl))))) AV.nil) T.sum) ?_ nd
  · obtain ⟨t, h, l, m, e1, e2⟩ := item_at hp (List.mem_of_getElem? ha)
    rw [e2]
    exact EV.ixT (EV.ixL (EV.var 5) (EV.var 7) e1) EV.int rfl
  refine HT.ret (EV.sub (EV.var 6) (EV.sum (AV.cons (EV.fz (LV.ev (LV.lcL1 (j := 7) (S := rI) (fun j : Int => !decide (j = arc)) (fun j : Int => (arcs.getD j.toNat []).getD 3 0) (IV.list (EV.var 4)) nd (by show blkC nLo (defScope sLower) _ [("number", 7)] = true; decide +kernel) (Nat.le_trans lL (Nat.le_trans hla (by decide))) (fun b' i a s H0 C cl fp hb ha => TV.neI (EV.var 7) (EV.var 1)) (fun b' i a s H0 C cl fp hb ha hne => ?_) (fun _ _ _ _ _ => pg_name nd rfl (Or.inl rfl))))) AV.nil) T.sum)) ?_
  · obtain ⟨t, h, l, m, e1, e2⟩ := item_at hp (List.mem_of_getElem? ha)
    rw [e2]
    exact EV.ixT (EV.ixL (EV.var 5) (EV.var 7) e1) EV.int rfl
  · show (if arc ∈ nums (isL mem) arcs arcs.length then _ else _) = _
    rw [if_pos hy]; rfl
end
end K6

namespace K6
open PySem L2 Evl Lg
abbrev sCell : Stmt := topS 12
abbrev sNumbers : Stmt := topS 13
def cellV (ns : List Int) (k : Int) : Int := if k < ns.length then ns.getD k.toNat 0 else 0
def absV' (i : Int) : Int := if i < 0 then -i else i
def inStep (most : Int) (p : List Int × Int) : List Int × Int := if 0 < p.2 ∧ (p.1.length : Int) < most then (p.1 ++ [p.2 % 4096], p.2 / 4096) else p
def inner (most : Int) (p : List Int × Int) : Nat → List Int × Int
  | 0 => p
  | k + 1 => inStep most (inner most p k)
def mix (c at_ : Int) : Int :=
  let m := (c * 48271 + at_ * 69621 + 12345) % 2147483647
  ((m * 69621 + m / 1009) % 1000003) % 4096
def outStep (ns : List Int) (most : Int) (found : List Int) (at_ : Int) : List Int :=
  let c := absV' (cellV ns at_)
  if 1000000000000000000 ≤ c then (inner most (found, c) 60).1 else if (found.length : Int) < most then found ++ [mix c at_] else found
def outer (ns : List Int) (first most : Int) : Nat → List Int
  | 0 => []
  | k + 1 => outStep ns most (outer ns first most k) (first + k)
def numbers (ns : List Int) (first most : Int) : List Int := outer ns first most ((ns.length : Int) - first).toNat
/-- numbers that are drawn -/
def Drawn (most : Int) (l : List Int) : Prop := (∀ x ∈ l, 0 ≤ x ∧ x < 4096) ∧ (l.length : Int) ≤ most
theorem inner_ok {most : Int} {l : List Int} {c : Int} (hm : 0 ≤ most) (h : Drawn most l) (hc : 0 ≤ c) : ∀ k, Drawn most (inner most (l, c) k).1 ∧ 0 ≤ (inner most (l, c) k).2
  | 0 => ⟨h, hc⟩
  | k + 1 => by
    obtain ⟨⟨h1, h2⟩, h3⟩ := inner_ok hm h hc k
    show Drawn most (inStep most (inner most (l, c) k)).1 ∧ 0 ≤ (inStep most (inner most (l, c) k)).2
    unfold inStep
    split
    · rename_i z
      refine ⟨⟨fun x hx => ?_, ?_⟩, ?_⟩
      · rcases List.mem_append.mp hx with q | q
        · exact h1 x q
        · rw [List.mem_singleton.mp q]; omega
      · rw [List.length_append]; simp; omega
      · show 0 ≤ (inner most (l, c) k).2 / 4096; omega
    · exact ⟨⟨h1, h2⟩, h3⟩
theorem absV_nn (i : Int) : 0 ≤ absV' i := by unfold absV'; split <;> omega
theorem mix_ok (c a : Int) : 0 ≤ mix c a ∧ mix c a < 4096 := ⟨Int.emod_nonneg _ (by decide), Int.emod_lt_of_pos _ (by decide)⟩
theorem outer_ok (ns : List Int) {first most : Int} (hm : 0 ≤ most) : ∀ k, Drawn most (outer ns first most k)
  | 0 => ⟨fun _ h => (nomatch h), hm⟩
  | k + 1 => by
    have ih := outer_ok ns (first := first) hm k
    show Drawn most (outStep ns most (outer ns first most k) (first + k))
    unfold outStep
    dsimp only
    split
    · exact (inner_ok hm ih (absV_nn _) 60).1
    · split
      · refine ⟨fun x hx => ?_, ?_⟩
        · rcases List.mem_append.mp hx with q | q
          · exact ih.1 x q
          · rw [List.mem_singleton.mp q]; exact mix_ok _ _
        · rw [List.length_append]; simp; omega
      · exact ih
theorem numbers_ok (ns : List Int) (first : Int) {most : Int} (hm : 0 ≤ most) : Drawn most (numbers ns first most) := outer_ok ns hm _
section
variable {P : Program} {w : World} {K : PySem.W.Frag} {mg : Str → Option Value} {base : Heap} {CI CN : Addr}
theorem at_sc {ns : List Int} {k : Int} (h0 : 0 ≤ k) (h1 : k < ns.length) : atI ns k = some (cellV ns k) := by
  have e : ((k.toNat : Nat) : Int) = k := by omega
  have := gd (l := ns) (j := k.toNat) (by omega)
  have q := atI_nat this
  rw [e] at q
  unfold cellV
  rw [if_pos h1]; exact q
theorem scCell : FnScope ["script", "k"] ["script", "k"] (defScope sCell) := ⟨rfl, rfl, rfl, by decide +kernel, rfl, by decide +kernel, by decide +kernel⟩
def spCell (K : PySem.W.Frag) : Sp := spX (ι := List Int × Int) (fun i => [mk (rSc K) i.1, mk rI i.2]) (fun i => 0 ≤ i.2) (fun i => .ok (im rI (cellV i.1 i.2)))
theorem ok_cell {f : Addr} {fd : FuncData} (F : Fun K "_law_cell" "_law_cell" sCell f fd) (T : Tp K mg CI CN) : FnOk P w K mg base (L2.CX P w) 1 f fd ["script", "k"] (spCell K) := by
  refine fn_ok F scCell (fun _ => rfl) fun ⟨ns, k⟩ B cdv A' outer s H E h0 hr hE => ?_
  have h0 : 0 ≤ k := h0
  conv => arg 5; whnf
  show HT _ _ _ [some (im (rSc K) ns), some (im rI k)] _
  refine HT.when (TV.lt (EV.var 1) (EV.lenSc (AV.cons (EV.var 0) AV.nil) T.len)) (fun h => ?_) (fun h => ?_)
  · exact HT.ret (EV.ixSc (EV.var 0) (EV.var 1) (at_sc h0 (by simpa using h))) rfl
  · refine HT.ret EV.int ?_
    show Rs.ok _ = Rs.ok _
    unfold cellV
    rw [if_neg (by simpa using h)]
abbrev nNum : List Str := ["script", "first", "most", "found", "at", "cell", "k", "mixed"]
theorem scNum : FnScope nNum ["script", "first", "most"] (defScope sNumbers) := ⟨rfl, rfl, rfl, by decide +kernel, rfl, by decide +kernel, by decide +kernel⟩
def spNum (K : PySem.W.Frag) : Sp := spX (ι := List Int × Int × Int) (fun i => [mk (rSc K) i.1, mk rI i.2.1, mk rI i.2.2]) (fun i => i.1.length ≤ 63 ∧ (0 ≤ i.2.1 ∧ i.2.1 ≤ 1000) ∧ (0 ≤ i.2.2 ∧ i.2.2 ≤ 1000)) (fun i => .ok (im (rL rI) (numbers i.1 i.2.1 i.2.2)))
theorem ok_num {f : Addr} {fd : FuncData} (F : Fun K "_law_numbers" "_law_numbers" sNumbers f fd) (T : Tp K mg CI CN) : FnOk P w K mg base (L2.CX P w) 1 f fd ["script", "first", "most"] (spNum K) := by
  refine fn_ok F scNum (fun _ => rfl) fun ⟨ns, first, most⟩ B cdv A' outer0 s H E ⟨hl, ⟨hf0, hf1⟩, ⟨hm0, hm1⟩⟩ hr hE => ?_
  have hl : ns.length ≤ 63 := hl
  have hf0 : 0 ≤ first := hf0
  have hf1 : first ≤ 1000 := hf1
  have hm0 : 0 ≤ most := hm0
  have hm1 : most ≤ 1000 := hm1
  have nd := scNum.nd
  conv => arg 5; whnf
  show HT _ _ _ [some (im (rSc K) ns), some (im rI first), some (im rI most), none, none, none, none, none] _
  refine HT.set 3 (EV.lst (R := rI) (as := []) AV.nil rfl (by decide)) ?_ nd
  refine HT.for (IV.rng2 (AV.cons (EV.var 1) (AV.cons (EV.lenSc (AV.cons (EV.var 0) AV.nil) T.len) AV.nil)) (by omega) (by omega) T.rng)
    (fun k Γ => Γ = [some (im (rSc K) ns), some (im rI first), some (im rI most), some (ow rI (outer ns first most k)), none, none, none, none]) rfl ?_ ?_ (passes_of rfl)
  · rintro b' i y Γ' hb hi rfl rfl
    have dr := outer_ok ns (first := first) hm0 i
    have hi1 : first + (i : Int) < ns.length := by omega
    refine ⟨_, GV.name 4 nd, ?_⟩
    refine HT.set 5 (EV.abs (AV.cons (EV.ixSc (EV.var 0) (EV.var 4) (at_sc (by omega) hi1)) AV.nil) T.abs) ?_ nd
    have hc := absV_nn (cellV ns (first + (i : Int)))
    generalize hcc : absV' (cellV ns (first + (i : Int))) = c at hc
    have hcc' : (if cellV ns (first + (i : Int)) < 0 then -cellV ns (first + (i : Int)) else cellV ns (first + (i : Int))) = c := hcc
    rw [hcc']
    have step : outer ns first most (i + 1) = if 1000000000000000000 ≤ c then (inner most (outer ns first most i, c) 60).1 else if ((outer ns first most i).length : Int) < most then outer ns first most i ++ [mix c (first + i)] else outer ns first most i := by
      show outStep ns most (outer ns first most i) (first + i) = _
      unfold outStep
      rw [hcc]
    have le : ∀ {a b c d : Option Sl} {c1 c2 c3 c4 : Option Sl}, Le [a, b, c, d, c1, c2, c3, c4] [a, b, c, d, none, none, none, none] := Le.keep (Le.keep (Le.keep (Le.keep (Le.drop (Le.drop (Le.drop (Le.drop Le.nil)))))))
    refine HT.ite (TV.ge (EV.var 5) EV.int) (fun h => ?_) (fun h => ?_)
    · have h : (1000000000000000000 : Int) ≤ c := by simpa using h
      rw [if_pos h] at step
      refine HT.for (IV.rng1 (AV.cons EV.int AV.nil) (by omega) T.rng) (fun k Γ => Γ = [some (im (rSc K) ns), some (im rI first), some (im rI most), some (ow rI (inner most (outer ns first most i, c) k).1), some (im rI (first + (i : Int))), some (im rI (inner most (outer ns first most i, c) k).2), none, none])
        rfl ?_ ?_ (passes_of rfl)
      · rintro b2 j y Γ' hb2 hj rfl rfl
        obtain ⟨⟨q1, q2⟩, q3⟩ := inner_ok hm0 dr hc j
        refine ⟨_, GV.name 6 nd, ?_⟩
        have le : ∀ {a b c d : Option Sl} {c1 c2 c3 c4 : Option Sl}, Le [a, b, c, d, c1, c2, c3, c4] [a, b, c, d, c1, c2, none, c4] := Le.keep (Le.keep (Le.keep (Le.keep (Le.keep (Le.keep (Le.drop (Le.keep Le.nil)))))))
        generalize hp : inner most (outer ns first most i, c) j = p at q1 q2 q3
        have hs : inner most (outer ns first most i, c) (j + 1) = inStep most p := by
          show inStep most (inner most (outer ns first most i, c) j) = _
          rw [hp]
        obtain ⟨l, d⟩ := p
        refine HT.when (TV.and (TV.gt (EV.var 5) EV.int) fun _ => TV.lt (EV.lenOw 3 rfl T.len) (EV.var 2)) (fun hy => ?_) (fun hn => ?_)
        · have hy : 0 < d ∧ (l.length : Int) < most := by simpa using hy
          refine HT.append 3 rfl (EV.mod (EV.toInt (AV.cons (EV.var 5) AV.nil) T.int) EV.int (by decide)) (by omega) ?_
          refine HT.set 5 (EV.fdiv (EV.var 5) EV.int (by constructor <;> decide)) ?_ nd
          refine HT.nil (HT.done le ?_)
          rw [hs]
          unfold inStep
          rw [if_pos hy]
        · have hn : ¬ (0 < d ∧ (l.length : Int) < most) := fun q => by simp [q.1, q.2] at hn
          refine HT.done le ?_
          rw [hs]
          unfold inStep
          rw [if_neg hn]
      · rintro Γ' rfl
        refine HT.nil (HT.done le ?_)
        rw [step]; rfl
    · have h : c < 1000000000000000000 := by simpa using h
      rw [if_neg (by omega)] at step
      refine HT.when (TV.lt (EV.lenOw 3 rfl T.len) (EV.var 2)) (fun hy => ?_) (fun hn => ?_)
      · have hy : ((outer ns first most i).length : Int) < most := by simpa using hy
        rw [if_pos hy] at step
        refine HT.set 7 (EV.mod (EV.toInt (AV.cons (EV.add (EV.add (EV.mul (EV.var 5) EV.int (.inl (by omega))) (EV.mul (EV.var 4) EV.int (.inl (by omega)))) EV.int) AV.nil) T.int) EV.int (by decide)) ?_ nd
        refine HT.set 7 (EV.mod (EV.toInt (AV.cons (EV.add (EV.mul (EV.var 7) EV.int (.inl (by omega))) (EV.fdiv (EV.var 7) EV.int (by constructor <;> decide))) AV.nil) T.int) EV.int (by decide)) ?_ nd
        refine HT.append 3 rfl (EV.mod (EV.toInt (AV.cons (EV.var 7) AV.nil) T.int) EV.int (by decide)) (by omega) ?_
        refine HT.nil (HT.nil (HT.done le ?_))
        rw [step]; rfl
      · have hn : ¬ ((outer ns first most i).length : Int) < most := by simpa using hn
        rw [if_neg hn] at step
        refine HT.nil (HT.done le ?_)
        rw [step]
  · rintro Γ' rfl
    refine HT.frz 3 rfl ?_
    exact HT.ret (EV.var 3) rfl
end
end K6

namespace K6
open PySem L2 Evl Lg
abbrev sAnyNet : Stmt := topS 14
/-! ### balances -/
def dl (v : Int) (e : Int × Int) : Int := (if e.2 = v then 1 else 0) - (if e.1 = v then 1 else 0)
def bal (es : List (Int × Int)) (fl : List Int) (v : Int) : Int := ((es.zip fl).map fun p => dl v p.1 * p.2).sum
def bp (es : List (Int × Int)) (path : List Int) (v : Int) : Int := (path.map fun j => dl v (es.getD j.toNat (0, 0))).sum
theorem bal_set (v d : Int) : ∀ {es : List (Int × Int)} {fl : List Int} {j : Nat} {e : Int × Int} {x : Int}, es[j]? = some e → fl[j]? = some x → bal es (fl.set j (x + d)) v = bal es fl v + dl v e * d
  | [], _, _, _, _, h, _ => by simp at h
  | _ :: _, [], _, _, _, _, h => by simp at h
  | e0 :: es, x0 :: fl, 0, e, x, h1, h2 => by
    simp at h1 h2
    subst h1 h2
    show dl v e0 * (x0 + d) + bal es fl v = dl v e0 * x0 + bal es fl v + dl v e0 * d
    rw [Int.mul_add]; omega
  | e0 :: es, x0 :: fl, j + 1, e, x, h1, h2 => by
    have ih := bal_set v d (es := es) (fl := fl) (j := j) (by simpa using h1) (by simpa using h2)
    show dl v e0 * x0 + bal es (fl.set j (x + d)) v = dl v e0 * x0 + bal es fl v + dl v e * d
    rw [ih]; omega
theorem bal_zero (v : Int) : ∀ (es : List (Int × Int)) (k : Nat), bal es (List.replicate k 0) v = 0
  | [], _ => by simp [bal]
  | _ :: _, 0 => by simp [bal]
  | e :: es, k + 1 => by
    show dl v e * 0 + bal es (List.replicate k 0) v = 0
    rw [bal_zero v es k]; omega
theorem dl_step (v s n h : Int) : dl v (s, n) + dl v (n, h) = dl v (s, h) := by unfold dl; dsimp only; omega
theorem dl_self (v s : Int) : dl v (s, s) = 0 := by unfold dl; dsimp only; omega
def pend (e : Int × Int) : Bool × List Int := (false, [e.1, e.2, 0, 0])
def EndOk (n : Int) (e : Int × Int) : Prop := (0 ≤ e.1 ∧ e.1 < n) ∧ (0 ≤ e.2 ∧ e.2 < n) ∧ e.1 ≠ e.2
theorem at_int {α : Type} {l : List α} {k : Int} (d : α) (h0 : 0 ≤ k) (h1 : k < l.length) : atI l k = some (l.getD k.toNat d) := by
  have e : ((k.toNat : Nat) : Int) = k := by omega
  have g : l[k.toNat]? = some (l.getD k.toNat d) := by
    rw [List.getD_eq_getElem?_getD, List.getElem?_eq_getElem (by omega)]; rfl
  have q := atI_nat g
  rwa [e] at q
theorem head_ok {n t x : Int} (hn : 2 ≤ n ∧ n ≤ 5) (ht : 0 ≤ t ∧ t < n) : EndOk n (t, (t + 1 + x % (n - 1)) % n) := by
  have h2 : n = 2 ∨ n = 3 ∨ n = 4 ∨ n = 5 := by omega
  unfold EndOk
  dsimp only
  rcases h2 with rfl | rfl | rfl | rfl <;> omega
theorem set_mid {α : Type} (x a : α) (l2 : List α) : ∀ l1 : List α, (l1 ++ a :: l2).set l1.length x = l1 ++ x :: l2
  | [] => rfl
  | b :: l1 => by
    show b :: (l1 ++ a :: l2).set l1.length x = _
    rw [set_mid x a l2 l1]; rfl
theorem mid_at {α : Type} (a : α) (l2 : List α) (l1 : List α) : (l1 ++ a :: l2)[l1.length]? = some a := by simp
/-- what a drawn network is -/
structure Good (n : Int) (arcs : List (List Int)) (flow : List Int) : Prop where
  n2 : 2 ≤ n ∧ n ≤ 5
  len : flow.length = arcs.length
  le10 : arcs.length ≤ 10
  at_ : ∀ (i : Nat) (a : List Int) (x : Int), arcs[i]? = some a → flow[i]? = some x → ∃ t h l m, a = [t, h, l, m] ∧ EndOk n (t, h) ∧ 0 ≤ l ∧ l ≤ x ∧ x ≤ m
  bal : ∀ v, bal (arcs.map fun a => (a.getD 0 0, a.getD 1 0)) flow v = 0
def pref : Int × List (List Int) × List Int → Sl := fun y => im (rP3 rI (rL (rT rI)) (rL rI)) y
section
variable {P : Program} {w : World} {K : PySem.W.Frag} {mg : Str → Option Value} {base : Heap} {CI CN : Addr}
abbrev nAny : List Str := ["numbers", "loose", "nodes", "arcs", "flow", "number", "tail", "head", "k", "start", "node", "path", "step", "j", "ways", "least", "most"]
theorem scAny : FnScope nAny ["numbers", "loose"] (defScope sAnyNet) := ⟨rfl, rfl, rfl, by decide +kernel, rfl, by decide +kernel, by decide +kernel⟩
def spAny : Sp := spR (ι := List Int) (fun i => [mk (rL rI) i, mk rI 0]) (fun i => Drawn 10 i) (fun _ s => ∃ y, Good y.1 y.2.1 y.2.2 ∧ s = pref y)
theorem ok_any {f : Addr} {fd : FuncData} (F : Fun K "_law_any_network" "_law_any_network" sAnyNet f fd) (T : Tp K mg CI CN) : FnOk P w K mg base (L2.CX P w) 1 f fd ["numbers", "loose"] spAny := by
  refine fn_okR F scAny (fun _ => rfl) fun ws B cdv A' outer0 s H E ⟨hd1, hd2⟩ hr => ?_
  have nd := scAny.nd
  have hw : ws.length ≤ 10 := by omega
  conv => arg 5; whnf
  show HT _ _ _ [some (im (rL rI) ws), some (im rI 0), none, none, none, none, none, none, none, none, none, none, none, none, none, none, none] _
  refine HT.set 2 (EV.add EV.int (EV.mod (EV.toInt (AV.cons (EV.sum (AV.cons (EV.var 0) AV.nil) T.sum) AV.nil) T.int) EV.int (by decide))) ?_ nd
  have hn : 2 ≤ 2 + ws.sum % 4 ∧ 2 + ws.sum % 4 ≤ 5 := by omega
  generalize 2 + ws.sum % 4 = n at hn
  refine HT.set 3 (EV.lst (R := rQ rI) (as := []) AV.nil rfl (by decide)) ?_ nd
  refine HT.set 4 (EV.lst (R := rI) (as := []) AV.nil rfl (by decide)) ?_ nd
  refine HT.for (IV.list (EV.var 0)) (fun k Γ => ∃ es : List (Int × Int), Γ = [some (im (rL rI) ws), some (im rI 0), some (im rI n), some (ow (rQ rI) (es.map pend)), some (ow rI (List.replicate es.length 0)), none, none, none, none, none, none, none, none, none, none, none, none] ∧ es.length = k ∧ ∀ e ∈ es, EndOk n e) ⟨[], rfl, rfl, fun _ h => nomatch h⟩ ?_ ?_ (passes_of rfl)
  · rintro b' i y Γ' hb hi ⟨x, hx, rfl⟩ ⟨es, rfl, hl, he⟩
    have hi : i < ws.length := hi
    refine ⟨_, GV.name 5 nd, ?_⟩
    refine HT.set 6 (EV.mod (EV.toInt (AV.cons (EV.var 5) AV.nil) T.int) (EV.var 2) (by omega)) ?_ nd
    refine HT.set 7 (EV.mod (EV.toInt (AV.cons (EV.add (EV.add (EV.var 6) EV.int) (EV.mod (EV.toInt (AV.cons (EV.fdiv (EV.var 5) EV.int (by constructor <;> decide)) AV.nil) T.int) (EV.sub (EV.var 2) EV.int) (by omega))) AV.nil) T.int) (EV.var 2) (by omega)) ?_ nd
    have ht : 0 ≤ x % n ∧ x % n < n := ⟨Int.emod_nonneg _ (by omega), Int.emod_lt_of_pos _ (by omega)⟩
    have hh := head_ok (x := x / 5) hn ht
    refine HT.append (x := (false, [x % n, (x % n + 1 + x / 5 % (n - 1)) % n, 0, 0])) 3 rfl ((EV.fz (EV.lst (R := rI) (as := [x % n, (x % n + 1 + x / 5 % (n - 1)) % n, 0, 0]) (AV.cons (EV.var 6) (AV.cons (EV.var 7) (AV.cons EV.int (AV.cons EV.int AV.nil)))) rfl (by show 4 ≤ 1000; decide))).to fun F v h => rQ.ofL h) (by rw [List.length_map]; omega) ?_
    refine HT.append 4 rfl EV.int (by rw [List.length_replicate]; omega) ?_
    refine HT.done (Γ' := [some (im (rL rI) ws), some (im rI 0), some (im rI n), some (ow (rQ rI) ((es ++ [(x % n, (x % n + 1 + x / 5 % (n - 1)) % n)]).map pend)), some (ow rI (List.replicate (es ++ [(x % n, (x % n + 1 + x / 5 % (n - 1)) % n)]).length 0)), none, none, none, none, none, none, none, none, none, none, none, none]) ?_ ⟨_, rfl, by simp [hl], fun e h => ?_⟩
    · rw [List.map_append, List.length_append, List.length_singleton, List.replicate_succ']
      exact Le.keep (Le.keep (Le.keep (Le.keep (Le.keep (Le.drop (Le.drop (Le.drop (Le.keep (Le.keep (Le.keep (Le.keep (Le.keep (Le.keep (Le.keep (Le.keep (Le.keep Le.nil))))))))))))))))
    · rcases List.mem_append.mp h with q | q
      · exact he e q
      · rw [List.mem_singleton.mp q]; exact hh
  rintro Γ' ⟨es, rfl, hl, he⟩
  have hl : es.length = ws.length := hl
  have hm : es.length ≤ 10 := by omega
  have hpl : (es.map pend).length = es.length := List.length_map _
  -- the flow along closed walks
  refine HT.for (IV.rng1 (AV.cons (EV.lenL (AV.cons (EV.var 0) AV.nil) T.len) AV.nil) (by omega) T.rng) (fun k Γ => ∃ fl : List Int, Γ = [some (im (rL rI) ws), some (im rI 0), some (im rI n), some (ow (rQ rI) (es.map pend)), some (ow rI fl), none, none, none, none, none, none, none, none, none, none, none, none] ∧ fl.length = es.length ∧ (∀ x ∈ fl, 0 ≤ x) ∧ ∀ v, bal es fl v = 0)
    ⟨_, rfl, by simp, fun x hx => by rw [List.eq_of_mem_replicate hx]; omega, fun v => bal_zero v es es.length⟩ ?_ ?_ (passes_of rfl)
  · rintro b' i y Γ' hb hi rfl ⟨fl, rfl, hfl, hnn, hbal⟩
    have hi : i < es.length := by omega
    have hiw : i < ws.length := by omega
    obtain ⟨⟨ts, hs⟩, hei⟩ : ∃ e, es[i]? = some e := ⟨_, List.getElem?_eq_getElem hi⟩
    have hpi : (es.map pend)[i]? = some (false, [ts, hs, 0, 0]) := by rw [List.getElem?_map, hei]; rfl
    have hwi := at_int (l := ws) (k := (i : Int)) 0 (by omega) (by omega)
    have hw0 : 0 ≤ ws.getD ((i : Int)).toNat 0 := by
      refine (hd1 _ ?_).1
      rw [List.getD_eq_getElem?_getD, List.getElem?_eq_getElem (by omega)]
      exact List.getElem_mem _
    generalize ws.getD ((i : Int)).toNat 0 = wi at hwi hw0
    refine ⟨_, GV.name 8 nd, ?_⟩
    refine HT.set 9 (EV.ixQ (EV.ixOw 3 rfl (EV.var 8) (atI_nat hpi)) EV.int rfl) ?_ nd
    refine HT.set 10 (EV.ixQ (EV.ixOw 3 rfl (EV.var 8) (atI_nat hpi)) EV.int rfl) ?_ nd
    refine HT.set 11 (EV.lst (R := rI) (as := [(i : Int)]) (AV.cons (EV.var 8) AV.nil) rfl (by show 1 ≤ 1000; decide)) ?_ nd
    refine HT.for (IV.rng1 (AV.cons (EV.var 2) AV.nil) (by omega) T.rng) (fun k Γ => ∃ (nd_ : Int) (path : List Int), Γ = [some (im (rL rI) ws), some (im rI 0), some (im rI n), some (ow (rQ rI) (es.map pend)), some (ow rI fl), none, none, none, some (im rI (i : Int)), some (im rI ts), some (im rI nd_), some (ow rI path), none, none, none, none, none]
      ∧ path.length ≤ k + 1 ∧ (∀ j ∈ path, 0 ≤ j ∧ j < es.length) ∧ ∀ v, bp es path v = dl v (ts, nd_))
      ⟨hs, [(i : Int)], rfl, by simp, fun j hj => by rw [List.mem_singleton.mp hj]; omega, fun v => by
        unfold bp
        rw [List.map_singleton, List.sum_singleton]
        have : es.getD ((i : Int)).toNat (0, 0) = (ts, hs) := by
          rw [show ((i : Int)).toNat = i by omega, List.getD_eq_getElem?_getD, hei]; rfl
        rw [this]⟩ ?_ ?_ (passes_of rfl)
    · rintro b2 q y Γ' hb2 hq rfl ⟨no, path, rfl, hpl2, hpin, hpb⟩
      have hq5 : q < 5 := by omega
      refine ⟨_, GV.name 12 nd, ?_⟩
      refine HT.when (TV.neI (EV.var 10) (EV.var 9)) (fun _ => ?_) (fun _ => ?_)
      · refine HT.setC 14 (LV.lcR1 (j := 13) (S := rI) (fun j => decide ((es.getD j (0, 0)).1 = no) && !decide ((j : Int) ∈ path)) (fun j => (j : Int)) (IV.rng1 (AV.cons (EV.lenOw 3 rfl T.len) AV.nil) (by rw [hpl]; omega) T.rng) nd (by show blkC nAny (defScope sAnyNet) _ [("j", 13)] = true; decide +kernel) (by omega)
          (fun b3 j s H0 C cl fp hb3 hj => ?_) (fun b3 j s H0 C cl fp hb3 hj hp => EV.var 13) (fun _ _ _ _ _ => pg_name nd rfl (Or.inl rfl))) ?_ (sw_true rfl rfl rfl (by decide +kernel))
        · have hj : j < es.length := by omega
          have hpj : (es.map pend)[j]? = some (pend (es.getD j (0, 0))) := by
            rw [List.getElem?_map, List.getD_eq_getElem?_getD, List.getElem?_eq_getElem hj]; rfl
          exact TV.and (TV.eqI (EV.ixQ (EV.ixOw 3 rfl (EV.var 13) (atI_nat hpj)) EV.int rfl) (EV.var 10)) fun _ => TV.ninOw 11 (EV.var 13) rfl
        rw [hpl, show ((es.length : Int)).toNat = es.length by omega]
        generalize hW : ((List.range es.length).filter fun (j : Nat) => decide ((es.getD j (0, 0)).1 = no) && !decide ((j : Int) ∈ path)).map (fun (j : Nat) => (j : Int)) = W
        have hWm : ∀ z ∈ W, ∃ j : Nat, z = j ∧ j < es.length ∧ (es.getD j (0, 0)).1 = no := by
          intro z hz
          rw [← hW] at hz
          obtain ⟨j, hj, rfl⟩ := List.mem_map.mp hz
          obtain ⟨h1, h2⟩ := List.mem_filter.mp hj
          simp only [Bool.and_eq_true, decide_eq_true_eq] at h2
          exact ⟨j, rfl, List.mem_range.mp h1, h2.1⟩
        refine HT.frz 14 rfl ?_
        refine HT.when (TV.neD (x := W) (y := []) Dt.int.lst (by decide) hr.units (EV.var 14) (EV.fz (EV.lst (R := rI) (as := []) AV.nil rfl (by decide)))) (fun hne => ?_) (fun _ => ?_)
        · have hne : W ≠ [] := by simpa using hne
          have hWl : 0 < W.length := List.length_pos_iff.mpr hne
          have hix : 0 ≤ wi / 20 % (W.length : Int) ∧ wi / 20 % (W.length : Int) < W.length := ⟨Int.emod_nonneg _ (by omega), Int.emod_lt_of_pos _ (by omega)⟩
          have hat := at_int (l := W) 0 hix.1 hix.2
          have hmem : W.getD (wi / 20 % (W.length : Int)).toNat 0 ∈ W := by
            rw [List.getD_eq_getElem?_getD, List.getElem?_eq_getElem (by omega)]
            exact List.getElem_mem _
          generalize W.getD (wi / 20 % (W.length : Int)).toNat 0 = z at hat hmem
          obtain ⟨j, rfl, hj, hno⟩ := hWm z hmem
          have hpj : (es.map pend)[j]? = some (pend (es.getD j (0, 0))) := by
            rw [List.getElem?_map, List.getD_eq_getElem?_getD, List.getElem?_eq_getElem hj]; rfl
          refine HT.append 11 rfl (EV.ixL (EV.var 14) (EV.mod (EV.toInt (AV.cons (EV.fdiv (EV.ixL (EV.var 0) (EV.var 8) hwi) EV.int (by constructor <;> decide)) AV.nil) T.int) (EV.lenL (AV.cons (EV.var 14) AV.nil) T.len) (by omega)) hat) (by omega) ?_
          refine HT.set 10 (EV.ixQ (EV.ixOw 3 rfl (EV.ixOw 11 rfl (EV.neg EV.int) (atI_last _ _)) (atI_nat hpj)) EV.int rfl) ?_ nd
          refine HT.nil (HT.nil (HT.done (Γ' := [some (im (rL rI) ws), some (im rI 0), some (im rI n), some (ow (rQ rI) (es.map pend)), some (ow rI fl), none, none, none, some (im rI (i : Int)), some (im rI ts), some (im rI (es.getD j (0, 0)).2), some (ow rI (path ++ [(j : Int)])), none, none, none, none, none]) (by repeat (first | exact Le.nil | apply Le.keep | apply Le.drop)) ⟨_, _, rfl, ?_, ?_, ?_⟩))
          · rw [List.length_append, List.length_singleton]; omega
          · intro k hk
            rcases List.mem_append.mp hk with h | h
            · exact hpin k h
            · rw [List.mem_singleton.mp h]; omega
          · intro v
            unfold bp
            rw [List.map_append, List.sum_append, List.map_singleton, List.sum_singleton]
            have := hpb v
            unfold bp at this
            rw [this, show ((j : Int)).toNat = j by omega]
            have e : es.getD j (0, 0) = (no, (es.getD j (0, 0)).2) := by rw [← hno]
            rw [e]
            exact dl_step v ts no _
        · exact HT.nil (HT.done (by repeat (first | exact Le.nil | apply Le.keep | apply Le.drop)) ⟨no, path, rfl, by omega, hpin, hpb⟩)
      · exact HT.done (by repeat (first | exact Le.nil | apply Le.keep | apply Le.drop)) ⟨no, path, rfl, by omega, hpin, hpb⟩
    · rintro Γ' ⟨no, path, rfl, hpl2, hpin, hpb⟩
      have hp6 : path.length ≤ 6 := by omega
      refine HT.when (TV.eqI (EV.var 10) (EV.var 9)) (fun hc => ?_) (fun _ => ?_)
      · have hc : no = ts := by simpa using hc
        refine HT.frz 11 rfl ?_
        refine HT.for (IV.list (EV.var 11)) (fun k Γ => ∃ fl' : List Int, Γ = [some (im (rL rI) ws), some (im rI 0), some (im rI n), some (ow (rQ rI) (es.map pend)), some (ow rI fl'), none, none, none, some (im rI (i : Int)), some (im rI ts), some (im rI no), some (im (rL rI) path), none, none, none, none, none]
          ∧ fl'.length = es.length ∧ (∀ x ∈ fl', 0 ≤ x) ∧ ∀ v, bal es fl' v = bal es fl v + bp es (path.take k) v * (wi / 100 % 4)) ⟨fl, rfl, hfl, hnn, fun v => by simp [bp]⟩ ?_ ?_ (passes_of rfl)
        · rintro b2 q y Γ' hb2 hq ⟨j, hj, rfl⟩ ⟨fl', rfl, hfl', hnn', hb'⟩
          have hj : path[q]? = some j := hj
          obtain ⟨hj0, hj1⟩ := hpin j (List.mem_of_getElem? hj)
          have hgd := gd (l := fl') (j := j.toNat) (by omega)
          refine ⟨_, GV.name 13 nd, ?_⟩
          refine HT.setI (m := j.toNat) 4 rfl (EV.add (EV.ixOw 4 rfl (EV.var 13) (at_int 0 hj0 (by omega))) (EV.mod (EV.toInt (AV.cons (EV.fdiv (EV.ixL (EV.var 0) (EV.var 8) hwi) EV.int (by constructor <;> decide)) AV.nil) T.int) EV.int (by decide))) (EV.var 13) (ixN_of hj0 (by omega)) ?_
          refine HT.done (by repeat (first | exact Le.nil | apply Le.keep | apply Le.drop)) ⟨_, rfl, by rw [List.length_set]; exact hfl', ?_, ?_⟩
          · intro x hx
            rcases List.mem_or_eq_of_mem_set hx with h | h
            · exact hnn' x h
            · rw [h]
              have : 0 ≤ fl'.getD j.toNat 0 := hnn' _ (List.mem_of_getElem? hgd)
              have : 0 ≤ wi / 100 % 4 := Int.emod_nonneg _ (by decide)
              omega
          · intro v
            have hej : es[j.toNat]? = some (es.getD j.toNat (0, 0)) := by
              rw [List.getD_eq_getElem?_getD, List.getElem?_eq_getElem (by omega)]; rfl
            rw [bal_set v _ hej hgd, hb' v, List.take_add_one, hj]
            unfold bp
            simp only [Option.toList, List.map_append, List.sum_append, List.map_cons, List.map_nil, List.sum_cons, List.sum_nil]
            rw [Int.add_zero, Int.add_mul]; omega
        · rintro Γ' ⟨fl', rfl, hfl', hnn', hb'⟩
          refine HT.nil (HT.done (by repeat (first | exact Le.nil | apply Le.keep | apply Le.drop)) ⟨fl', rfl, hfl', hnn', fun v => ?_⟩)
          have e := hb' v
          rw [show path.take path.length = path from List.take_length, hpb v, hbal v, hc, dl_self] at e
          omega
      · exact HT.done (by repeat (first | exact Le.nil | apply Le.keep | apply Le.drop)) ⟨fl, rfl, hfl, hnn, hbal⟩
  rintro Γ' ⟨fl, rfl, hfl, hnn, hbal⟩
  refine HT.for (IV.rng1 (AV.cons (EV.lenOw 3 rfl T.len) AV.nil) (by rw [hpl]; omega) T.rng) (fun k Γ => ∃ dn : List (List Int), Γ = [some (im (rL rI) ws), some (im rI 0), some (im rI n), some (ow (rQ rI) (dn.map (fun a => (true, a)) ++ (es.drop k).map pend)), some (ow rI fl), none, none, none, none, none, none, none, none, none, none, none, none]
    ∧ dn.length = k ∧ ∀ (i : Nat) (a : List Int) (x : Int), dn[i]? = some a → fl[i]? = some x → ∃ t h l m, es[i]? = some (t, h) ∧ a = [t, h, l, m] ∧ 0 ≤ l ∧ l ≤ x ∧ x ≤ m) ⟨[], by rw [List.drop_zero]; rfl, rfl, fun i a x h => by simp at h⟩ ?_ ?_ (passes_of rfl)
  · rintro b' i y Γ' hb hi rfl ⟨dn, rfl, hdl, hda⟩
    have hi : i < es.length := by rw [hpl] at hi; omega
    obtain ⟨⟨ts, hs⟩, hei⟩ : ∃ e, es[i]? = some e := ⟨_, List.getElem?_eq_getElem hi⟩
    have hdr : es.drop i = (ts, hs) :: es.drop (i + 1) := by
      rw [List.drop_eq_getElem_cons hi]
      have : es[i] = (ts, hs) := by
        have q := List.getElem?_eq_getElem hi
        rw [hei] at q; exact (Option.some.inj q).symm
      rw [this]
    have hdl' : (dn.map (fun a => (true, a))).length = i := by rw [List.length_map]; exact hdl
    have hat : (dn.map (fun a => (true, a)) ++ (es.drop i).map pend)[i]? = some (false, [ts, hs, 0, 0]) := by
      rw [hdr, List.map_cons, ← hdl']; exact mid_at _ _ _
    have hwi := at_int (l := ws) (k := (i : Int)) 0 (by omega) (by omega)
    have hw0 : 0 ≤ ws.getD ((i : Int)).toNat 0 := by
      refine (hd1 _ ?_).1
      rw [List.getD_eq_getElem?_getD, List.getElem?_eq_getElem (by omega)]
      exact List.getElem_mem _
    generalize ws.getD ((i : Int)).toNat 0 = wi at hwi hw0
    have hfi := at_int (l := fl) (k := (i : Int)) 0 (by omega) (by omega)
    have hfg := gd (l := fl) (j := i) (by omega)
    rw [show ((i : Int)).toNat = i by omega] at hfi
    have hf0 : 0 ≤ fl.getD i 0 := hnn _ (List.mem_of_getElem? hfg)
    generalize fl.getD i 0 = fi at hfi hfg hf0
    refine ⟨_, GV.name 8 nd, ?_⟩
    refine HT.set 15 (EV.max2 (AV.cons EV.int (AV.cons (EV.add (EV.sub (EV.ixOw 4 rfl (EV.var 8) hfi) (EV.mod (EV.toInt (AV.cons (EV.fdiv (EV.ixL (EV.var 0) (EV.var 8) hwi) EV.int (by constructor <;> decide)) AV.nil) T.int) EV.int (by decide))) (EV.mul (EV.var 1) (EV.mod (EV.toInt (AV.cons (EV.ixL (EV.var 0) (EV.var 8) hwi) AV.nil) T.int) EV.int (by decide)) (.inl (by omega)))) AV.nil)) T.max) ?_ nd
    have hl1 : ∀ a : Int, 0 ≤ a → 0 ≤ (if a - a % 4 + 0 > 0 then a else 0) := fun a h => by split <;> omega
    have hz : fi - wi / 400 % 4 + 0 * (wi % 3) ≤ fi := by
      have : 0 ≤ wi / 400 % 4 := Int.emod_nonneg _ (by decide)
      omega
    generalize fi - wi / 400 % 4 + 0 * (wi % 3) = v1 at hz
    have h1 : 0 ≤ (if v1 > 0 then v1 else 0) ∧ (if v1 > 0 then v1 else 0) ≤ fi := by split <;> omega
    generalize (if v1 > 0 then v1 else 0) = lo at h1
    refine HT.set 16 (EV.max2 (AV.cons (EV.var 15) (AV.cons (EV.add (EV.ixOw 4 rfl (EV.var 8) hfi) (EV.mod (EV.toInt (AV.cons (EV.fdiv (EV.ixL (EV.var 0) (EV.var 8) hwi) EV.int (by constructor <;> decide)) AV.nil) T.int) EV.int (by decide))) AV.nil)) T.max) ?_ nd
    have h2 : fi ≤ (if fi + wi / 1600 % 3 > lo then fi + wi / 1600 % 3 else lo) := by
      have : 0 ≤ wi / 1600 % 3 := Int.emod_nonneg _ (by decide)
      split <;> omega
    generalize (if fi + wi / 1600 % 3 > lo then fi + wi / 1600 % 3 else lo) = hi_ at h2
    refine HT.setI (x := (true, [ts, hs, lo, hi_])) (m := i) 3 rfl ((EV.tup (R := rI) (as := [ts, hs, lo, hi_]) (AV.cons (EV.ixQ (EV.ixOw 3 rfl (EV.var 8) (atI_nat hat)) EV.int rfl) (AV.cons (EV.ixQ (EV.ixOw 3 rfl (EV.var 8) (atI_nat hat)) EV.int rfl) (AV.cons (EV.var 15) (AV.cons (EV.var 16) AV.nil)))) rfl (by show 4 ≤ 1000; decide)).to fun F v h => rQ.ofT h) (EV.var 8) (Evl.ixN_nat (by rw [List.length_append, hdl', hdr]; simp)) ?_
    have hset : (dn.map (fun a => (true, a)) ++ (es.drop i).map pend).set i (true, [ts, hs, lo, hi_]) = (dn ++ [[ts, hs, lo, hi_]]).map (fun a => (true, a)) ++ (es.drop (i + 1)).map pend := by
      rw [hdr, List.map_cons]
      have := set_mid (true, [ts, hs, lo, hi_]) (pend (ts, hs)) ((es.drop (i + 1)).map pend) (dn.map fun a => (true, a))
      rw [hdl'] at this
      rw [this, List.map_append, List.append_assoc]; rfl
    rw [hset]
    refine HT.done (by repeat (first | exact Le.nil | apply Le.keep | apply Le.drop)) ⟨_, rfl, by simp [hdl], fun j a x h1' h2' => ?_⟩
    by_cases hj : j < dn.length
    · rw [List.getElem?_append_left hj] at h1'
      exact hda j a x h1' h2'
    · have hjl : j = dn.length := by
        have := (List.getElem?_eq_some_iff.mp h1').1
        simp at this; omega
      subst hjl
      rw [List.getElem?_append_right (Nat.le_refl _)] at h1'
      simp at h1'
      subst h1'
      rw [hdl, hfg] at h2'
      cases h2'
      exact ⟨ts, hs, lo, hi_, by rw [hdl]; exact hei, rfl, h1.1, h1.2, h2⟩
  · rintro Γ' ⟨dn, rfl, hdl, hda⟩
    have hdl : dn.length = es.length := by
      rw [hdl]
      show ((es.map pend).length : Int).toNat = _
      rw [hpl]; omega
    have hdrop : ∀ k, k = es.length → es.drop k = [] := fun k h => by rw [h]; exact List.drop_length
    rw [hdrop _ (by rw [hpl]; omega), List.map_nil, List.append_nil]
    refine HT.frz 3 rfl ?_
    refine HT.frz 4 rfl ?_
    refine HT.cv (S := rL (rT rI)) (y := dn) 3 rfl (fun F v h => ?_) ?_
    · have q := rL.conv (S := rT rI) (Prod.snd) (fun a ha v hv => ?_) h
      · rw [List.map_map, show (Prod.snd ∘ fun a : List Int => (true, a)) = id from rfl, List.map_id] at q
        exact q
      · obtain ⟨c, _, rfl⟩ := List.mem_map.mp ha
        exact hv.1 rfl
    have hends : dn.map (fun a => (a.getD 0 0, a.getD 1 0)) = es := by
      apply List.ext_getElem?
      intro i
      rw [List.getElem?_map]
      by_cases hi : i < dn.length
      · have h1 := List.getElem?_eq_getElem hi
        have h2 : fl[i]? = some (fl[i]'(by omega)) := List.getElem?_eq_getElem (by omega)
        obtain ⟨t, h, l, m, q1, q2, _⟩ := hda i _ _ h1 h2
        rw [h1, q2, q1]; rfl
      · rw [List.getElem?_eq_none (by omega), List.getElem?_eq_none (by omega)]; rfl
    refine HT.ret (EV.tri (AV.cons (EV.var 2) (AV.cons (EV.var 3) (AV.cons (EV.var 4) AV.nil)))) ⟨(n, dn, fl), ⟨hn, by show fl.length = dn.length; omega, by show dn.length ≤ 10; omega, fun i a x h1 h2 => ?_, fun v => by rw [hends]; exact hbal v⟩, rfl⟩
    obtain ⟨t, h, l, m, q1, q2, q3, q4, q5⟩ := hda i a x h1 h2
    exact ⟨t, h, l, m, q2, he _ (List.mem_of_getElem? q1), q3, q4, q5⟩
end
end K6

namespace K6
open PySem L2 Evl Lg
abbrev sLawFlow : Stmt := topS 15
abbrev sLawBound : Stmt := topS 16
/-! ### sums by the turn -/
def sumK (φ : Nat → Int) : Nat → Int
  | 0 => 0
  | k + 1 => sumK φ k + φ k
theorem sumK_le {φ ψ : Nat → Int} : ∀ {k : Nat}, (∀ i, i < k → φ i ≤ ψ i) → sumK φ k ≤ sumK ψ k
  | 0, _ => Int.le_refl _
  | k + 1, h => by
    have := sumK_le (k := k) fun i hi => h i (by omega)
    have := h k (by omega)
    show sumK φ k + φ k ≤ sumK ψ k + ψ k
    omega
theorem sumK_congr {φ ψ : Nat → Int} : ∀ {k : Nat}, (∀ i, i < k → φ i = ψ i) → sumK φ k = sumK ψ k
  | 0, _ => rfl
  | k + 1, h => by
    show sumK φ k + φ k = sumK ψ k + ψ k
    rw [sumK_congr (k := k) fun i hi => h i (by omega), h k (by omega)]
theorem sumK_add (φ ψ : Nat → Int) : ∀ k : Nat, sumK (fun i => φ i + ψ i) k = sumK φ k + sumK ψ k
  | 0 => rfl
  | k + 1 => by
    show sumK (fun i => φ i + ψ i) k + (φ k + ψ k) = sumK φ k + φ k + (sumK ψ k + ψ k)
    rw [sumK_add φ ψ k]; omega
theorem sumK_sub (φ ψ : Nat → Int) : ∀ k : Nat, sumK (fun i => φ i - ψ i) k = sumK φ k - sumK ψ k
  | 0 => rfl
  | k + 1 => by
    show sumK (fun i => φ i - ψ i) k + (φ k - ψ k) = sumK φ k + φ k - (sumK ψ k + ψ k)
    rw [sumK_sub φ ψ k]; omega
theorem sumK_zero : ∀ k : Nat, sumK (fun _ => 0) k = 0
  | 0 => rfl
  | k + 1 => by show sumK (fun _ => 0) k + 0 = 0; rw [sumK_zero k]; rfl
theorem sumK_one (a : Nat) (x : Nat → Int) : ∀ k : Nat, a < k → sumK (fun i => if i = a then x i else 0) k = x a
  | 0, h => by omega
  | k + 1, h => by
    show sumK (fun i => if i = a then x i else 0) k + (if k = a then x k else 0) = x a
    by_cases e : k = a
    · subst e
      rw [if_pos rfl, sumK_congr (ψ := fun _ => 0) fun i hi => if_neg (by omega), sumK_zero]; omega
    · rw [if_neg e, sumK_one a x k (by omega)]; omega
theorem nums_sum (p : List Int → Bool) (arcs : List (List Int)) (ψ : Nat → Int) : ∀ k : Nat, ((nums p arcs k).map fun j => ψ j.toNat).sum = sumK (fun i => if p (arcs.getD i []) then ψ i else 0) k
  | 0 => rfl
  | k + 1 => by
    show _ = sumK (fun i => if p (arcs.getD i []) then ψ i else 0) k + (if p (arcs.getD k []) then ψ k else 0)
    rw [← nums_sum p arcs ψ k]
    unfold nums
    rw [List.range_succ, List.filter_append, List.map_append, List.map_append, List.sum_append]
    congr 1
    rw [List.filter_cons]
    split <;> simp
theorem nums_sumF (p : List Int → Bool) (arcs : List (List Int)) (ψ : Nat → Int) (a : Int) : ∀ k : Nat, (((nums p arcs k).filter fun j => !decide (j = a)).map fun j => ψ j.toNat).sum = sumK (fun i => if p (arcs.getD i []) ∧ (i : Int) ≠ a then ψ i else 0) k
  | 0 => rfl
  | k + 1 => by
    show _ = sumK (fun i => if p (arcs.getD i []) ∧ (i : Int) ≠ a then ψ i else 0) k + (if p (arcs.getD k []) ∧ (k : Int) ≠ a then ψ k else 0)
    rw [← nums_sumF p arcs ψ a k]
    unfold nums
    rw [List.range_succ, List.filter_append, List.map_append, List.filter_append, List.map_append, List.sum_append]
    congr 1
    rw [List.filter_cons]
    generalize p (arcs.getD k []) = c
    cases c with
    | true =>
      by_cases h2 : (k : Int) = a
      · simp [h2]
      · simp [h2]
    | false => simp
/-! ### the balance over a set -/
def hit (x : Int) (mem : List Int) : Int := if x ∈ mem then 1 else 0
theorem ind_sum (x : Int) : ∀ mem : List Int, mem.Nodup → (mem.map fun v => if x = v then (1 : Int) else 0).sum = hit x mem
  | [], _ => by simp [hit]
  | v :: mem, h => by
    obtain ⟨h1, h2⟩ := List.nodup_cons.mp h
    rw [List.map_cons, List.sum_cons, ind_sum x mem h2]
    unfold hit
    by_cases e : x = v
    · subst e
      simp [h1]
    · simp [e]
theorem dl_sum (e : Int × Int) (mem : List Int) (h : mem.Nodup) : (mem.map fun v => dl v e).sum = hit e.2 mem - hit e.1 mem := by
  have key : ∀ mem : List Int, (mem.map fun v => dl v e).sum = (mem.map fun v => if e.2 = v then (1 : Int) else 0).sum - (mem.map fun v => if e.1 = v then (1 : Int) else 0).sum := by
    intro mem
    induction mem with
    | nil => rfl
    | cons v mem ih =>
      rw [List.map_cons, List.sum_cons, List.map_cons, List.sum_cons, List.map_cons, List.sum_cons, ih]
      unfold dl
      omega
  rw [key, ind_sum _ mem h, ind_sum _ mem h]
theorem bal_sum (mem : List Int) (h : mem.Nodup) : ∀ (es : List (Int × Int)) (fl : List Int), (mem.map fun v => bal es fl v).sum = ((es.zip fl).map fun p => (hit p.1.2 mem - hit p.1.1 mem) * p.2).sum
  | [], fl => by
    have : ∀ mem : List Int, (mem.map fun v => bal [] fl v).sum = 0 := by
      intro mem
      induction mem with
      | nil => rfl
      | cons v mem ih => rw [List.map_cons, List.sum_cons, ih]; simp [bal]
    rw [this]; simp
  | e :: es, [] => by
    have : ∀ mem : List Int, (mem.map fun v => bal (e :: es) [] v).sum = 0 := by
      intro mem
      induction mem with
      | nil => rfl
      | cons v mem ih => rw [List.map_cons, List.sum_cons, ih]; simp [bal]
    rw [this]; simp
  | e :: es, x :: fl => by
    rw [List.zip_cons_cons, List.map_cons, List.sum_cons, ← bal_sum mem h es fl, ← dl_sum e mem h]
    clear h
    induction mem with
    | nil => simp
    | cons v mem ih =>
      rw [List.map_cons, List.sum_cons, List.map_cons, List.sum_cons, List.map_cons, List.sum_cons, ih]
      have q : bal (e :: es) (x :: fl) v = dl v e * x + bal es fl v := rfl
      rw [q, Int.add_mul]
      generalize dl v e * x = z1
      generalize (List.map (fun v => dl v e) mem).sum * x = z2
      omega
theorem zip_sumK (g : Int × Int → Int) : ∀ (es : List (Int × Int)) (fl : List Int), fl.length = es.length → ((es.zip fl).map fun p => g p.1 * p.2).sum = sumK (fun i => g (es.getD i (0, 0)) * fl.getD i 0) es.length := by
  intro es fl h
  have key : ∀ k, k ≤ es.length → (((es.take k).zip (fl.take k)).map fun p => g p.1 * p.2).sum = sumK (fun i => g (es.getD i (0, 0)) * fl.getD i 0) k := by
    intro k
    induction k with
    | zero => intro _; simp [sumK]
    | succ k ih =>
      intro hk
      have h1 : es[k]? = some (es.getD k (0, 0)) := by rw [List.getD_eq_getElem?_getD, List.getElem?_eq_getElem (by omega)]; rfl
      have h2 : fl[k]? = some (fl.getD k 0) := gd (by omega)
      rw [List.take_add_one, List.take_add_one, h1, h2]
      simp only [Option.toList]
      rw [List.zip_append (by simp; omega), List.map_append, List.sum_append, ih (by omega)]
      show sumK _ k + _ = sumK _ k + _
      simp
  have := key es.length (Nat.le_refl _)
  rwa [List.take_length, List.take_of_length_le (by omega)] at this
end K6

namespace K6
open PySem L2 Evl Lg
def ends (a : List Int) : Int × Int := (a.getD 0 0, a.getD 1 0)
/-! ### the surplus list -/
theorem getD_set {s : List Int} {j v : Nat} {y : Int} (hv : v < s.length) : (s.set j y).getD v 0 = if j = v then y else s.getD v 0 := by
  rw [List.getD_eq_getElem?_getD, List.getElem?_set]
  by_cases e : j = v
  · subst e
    rw [if_pos rfl, if_pos hv, if_pos rfl]; rfl
  · rw [if_neg e, if_neg e, List.getD_eq_getElem?_getD]
def In4 (n : Nat) (a : List Int) : Prop := ∃ t h x y, a = [t, h, x, y] ∧ (0 ≤ t ∧ t < n) ∧ (0 ≤ h ∧ h < n)
theorem sur_one {s : List Int} {p : List Int × Int} (hp : In4 s.length p.1) {v : Nat} (hv : v < s.length) : (surStep s p).getD v 0 = s.getD v 0 + dl v (ends p.1) * p.2 := by
  obtain ⟨a, x⟩ := p
  obtain ⟨t, h, l, m, rfl, ht, hh⟩ := hp
  show ((s.set h.toNat (s.getD h.toNat 0 + x)).set t.toNat ((s.set h.toNat (s.getD h.toNat 0 + x)).getD t.toNat 0 - x)).getD v 0 = s.getD v 0 + dl v (t, h) * x
  rw [getD_set (by rw [List.length_set]; exact hv), getD_set (v := t.toNat) (by omega), getD_set hv]
  unfold dl
  dsimp only
  by_cases e1 : t.toNat = v
  · by_cases e2 : h.toNat = v
    · have q1 : t = v := by omega
      have q2 : h = v := by omega
      subst q1
      rw [if_pos e1, if_pos (by omega), if_pos q2, if_pos rfl, e2]; omega
    · have q1 : t = v := by omega
      rw [if_pos e1, if_neg (by omega), if_neg (by omega), if_pos q1, e1]; omega
  · by_cases e2 : h.toNat = v
    · rw [if_neg e1, if_pos e2, if_pos (by omega), if_neg (by omega), e2]; omega
    · rw [if_neg e1, if_neg e2, if_neg (by omega), if_neg (by omega)]; omega
theorem sur_get {v : Nat} : ∀ (l : List (List Int × Int)) (s : List Int), (∀ p ∈ l, In4 s.length p.1) → v < s.length → (l.foldl surStep s).getD v 0 = s.getD v 0 + (l.map fun p => dl v (ends p.1) * p.2).sum
  | [], s, _, _ => by simp
  | p :: l, s, h, hv => by
    have hl : (surStep s p).length = s.length := sur_len [p] s
    rw [List.foldl_cons, sur_get l (surStep s p) (fun q hq => by rw [hl]; exact h q (List.mem_cons_of_mem _ hq)) (by rw [hl]; exact hv), sur_one (h p List.mem_cons_self) hv, List.map_cons, List.sum_cons]
    omega
theorem rep_get (n v : Nat) : (List.replicate n (0 : Int)).getD v 0 = 0 := by
  rw [List.getD_eq_getElem?_getD, List.getElem?_replicate]
  split <;> rfl
theorem zip_bal (v : Int) : ∀ (arcs : List (List Int)) (vs : List Int), ((arcs.zip vs).map fun p => dl v (ends p.1) * p.2).sum = bal (arcs.map ends) vs v
  | [], _ => by simp [bal]
  | _ :: _, [] => by simp [bal]
  | a :: arcs, x :: vs => by
    rw [List.zip_cons_cons, List.map_cons, List.sum_cons, zip_bal v arcs vs]; rfl
theorem ext_getD {s r : List Int} (hl : s.length = r.length) (h : ∀ v, v < s.length → s.getD v 0 = r.getD v 0) : s = r := by
  apply List.ext_getElem hl
  intro i h1 h2
  have := h i h1
  rw [List.getD_eq_getElem?_getD, List.getD_eq_getElem?_getD, List.getElem?_eq_getElem h1, List.getElem?_eq_getElem h2] at this
  exact this
theorem any_rep (n : Nat) : (List.replicate n (0 : Int)).any (· != 0) = false := by
  rw [List.any_eq_false]
  intro x hx
  rw [List.eq_of_mem_replicate hx]; simp
theorem any_iff (s : List Int) : (!s.any (· != 0)) = decide (s = List.replicate s.length 0) := by
  rw [Bool.eq_iff_iff]
  simp only [Bool.not_eq_true', decide_eq_true_eq]
  refine ⟨fun h => ?_, fun h => by rw [h]; exact any_rep _⟩
  rw [List.any_eq_false] at h
  exact List.eq_replicate_iff.mpr ⟨rfl, fun x hx => by have := h x hx; simpa using this⟩
/-! ### duality -/
theorem Good.at' {n : Int} {arcs : List (List Int)} {fl : List Int} (G : Good n arcs fl) {i : Nat} (hi : i < arcs.length) : ∃ t h l m, arcs.getD i [] = [t, h, l, m] ∧ EndOk n (t, h) ∧ 0 ≤ l ∧ l ≤ fl.getD i 0 ∧ fl.getD i 0 ≤ m := by
  have h1 : arcs[i]? = some (arcs.getD i []) := by rw [List.getD_eq_getElem?_getD, List.getElem?_eq_getElem hi]; rfl
  exact G.at_ i _ _ h1 (gd (by rw [G.len]; exact hi))
theorem ends_get {arcs : List (List Int)} {i : Nat} (hi : i < arcs.length) : (arcs.map ends).getD i (0, 0) = ends (arcs.getD i []) := by
  rw [List.getD_eq_getElem?_getD, List.getElem?_map, List.getElem?_eq_getElem hi, List.getD_eq_getElem?_getD, List.getElem?_eq_getElem hi]; rfl
theorem Good.zero {n : Int} {arcs : List (List Int)} {fl : List Int} (G : Good n arcs fl) {mem : List Int} (hm : mem.Nodup) : sumK (fun i => (hit (ends (arcs.getD i [])).2 mem - hit (ends (arcs.getD i [])).1 mem) * fl.getD i 0) arcs.length = 0 := by
  have h1 := bal_sum mem hm (arcs.map ends) fl
  have h2 := zip_sumK (fun e => hit e.2 mem - hit e.1 mem) (arcs.map ends) fl (by rw [List.length_map]; exact G.len)
  rw [h2] at h1
  have h3 : (mem.map fun v => K6.bal (arcs.map ends) fl v).sum = 0 := by
    have : ∀ l : List Int, (l.map fun v => K6.bal (arcs.map ends) fl v).sum = 0 := by
      intro l
      induction l with
      | nil => rfl
      | cons v l ih => rw [List.map_cons, List.sum_cons, ih, show K6.bal (arcs.map ends) fl v = 0 from G.bal v]; rfl
    exact this mem
  rw [h3, List.length_map] at h1
  exact (sumK_congr fun i hi => by rw [ends_get hi]).trans h1.symm
theorem dual_up {n : Int} {arcs : List (List Int)} {fl : List Int} (G : Good n arcs fl) {mem : List Int} (hm : mem.Nodup) {a : Nat} (ha : a < arcs.length) (hE : isE mem (arcs.getD a []) = true) : fl.getD a 0 ≤ upVal arcs (a : Int) mem := by
  unfold upVal
  rw [nums_sum (isL mem) arcs (fun i => (arcs.getD i []).getD 3 0), nums_sumF (isE mem) arcs (fun i => (arcs.getD i []).getD 2 0) (a : Int), ← sumK_one a (fun i => fl.getD i 0) arcs.length ha]
  have z := G.zero hm
  suffices h : 0 ≤ sumK (fun i => ((if isL mem (arcs.getD i []) then (arcs.getD i []).getD 3 0 else 0) - (if isE mem (arcs.getD i []) ∧ (i : Int) ≠ a then (arcs.getD i []).getD 2 0 else 0)) - ((if i = a then fl.getD i 0 else 0) - (hit (ends (arcs.getD i [])).2 mem - hit (ends (arcs.getD i [])).1 mem) * fl.getD i 0)) arcs.length by
    rw [sumK_sub, sumK_sub, sumK_sub, z] at h
    omega
  refine Int.le_trans (Int.le_of_eq (sumK_zero arcs.length).symm) (sumK_le fun i hi => ?_)
  obtain ⟨t, h, l, m, e, _, h0, h1, h2⟩ := G.at' hi
  have hEa : ∀ (_ : i = a), isE mem [t, h, l, m] = true := fun q => by subst q; rw [← e]; exact hE
  rw [e]
  have e1 : isE mem [t, h, l, m] = (decide (h ∈ mem) && !decide (t ∈ mem)) := rfl
  have e2 : isL mem [t, h, l, m] = (decide (t ∈ mem) && !decide (h ∈ mem)) := rfl
  show 0 ≤ ((if isL mem [t, h, l, m] then m else 0) - (if isE mem [t, h, l, m] ∧ (i : Int) ≠ a then l else 0)) - ((if i = a then fl.getD i 0 else 0) - (hit h mem - hit t mem) * fl.getD i 0)
  rw [e1] at hEa
  rw [e1, e2]
  generalize fl.getD i 0 = f at h1 h2
  unfold hit
  by_cases p1 : h ∈ mem <;> by_cases p2 : t ∈ mem <;> by_cases p3 : i = a <;> simp [p1, p2, p3] at hEa ⊢ <;> first | omega | (rw [if_pos (by omega)]; omega) | skip
theorem dual_lo {n : Int} {arcs : List (List Int)} {fl : List Int} (G : Good n arcs fl) {mem : List Int} (hm : mem.Nodup) {a : Nat} (ha : a < arcs.length) (hE : isL mem (arcs.getD a []) = true) : loVal arcs (a : Int) mem ≤ fl.getD a 0 := by
  unfold loVal
  rw [nums_sum (isE mem) arcs (fun i => (arcs.getD i []).getD 2 0), nums_sumF (isL mem) arcs (fun i => (arcs.getD i []).getD 3 0) (a : Int), ← sumK_one a (fun i => fl.getD i 0) arcs.length ha]
  have z := G.zero hm
  suffices h : 0 ≤ sumK (fun i => ((if i = a then fl.getD i 0 else 0) - ((if isE mem (arcs.getD i []) then (arcs.getD i []).getD 2 0 else 0) - (if isL mem (arcs.getD i []) ∧ (i : Int) ≠ a then (arcs.getD i []).getD 3 0 else 0))) + (hit (ends (arcs.getD i [])).2 mem - hit (ends (arcs.getD i [])).1 mem) * fl.getD i 0) arcs.length by
    rw [sumK_add, sumK_sub, sumK_sub, z] at h
    omega
  refine Int.le_trans (Int.le_of_eq (sumK_zero arcs.length).symm) (sumK_le fun i hi => ?_)
  obtain ⟨t, h, l, m, e, _, h0, h1, h2⟩ := G.at' hi
  have hEa : ∀ (_ : i = a), isL mem [t, h, l, m] = true := fun q => by subst q; rw [← e]; exact hE
  rw [e]
  have e1 : isE mem [t, h, l, m] = (decide (h ∈ mem) && !decide (t ∈ mem)) := rfl
  have e2 : isL mem [t, h, l, m] = (decide (t ∈ mem) && !decide (h ∈ mem)) := rfl
  show 0 ≤ ((if i = a then fl.getD i 0 else 0) - ((if isE mem [t, h, l, m] then l else 0) - (if isL mem [t, h, l, m] ∧ (i : Int) ≠ a then m else 0))) + (hit h mem - hit t mem) * fl.getD i 0
  rw [e2] at hEa
  rw [e1, e2]
  generalize fl.getD i 0 = f at h1 h2
  unfold hit
  by_cases p1 : h ∈ mem <;> by_cases p2 : t ∈ mem <;> by_cases p3 : i = a <;> simp [p1, p2, p3] at hEa ⊢ <;> first | omega | (rw [if_pos (by omega)]; omega) | skip
theorem Good.net {n : Int} {arcs : List (List Int)} {fl : List Int} (G : Good n arcs fl) : NetOk (n, arcs) := by
  have key : ∀ a ∈ arcs, ∃ t h l m, a = [t, h, l, m] ∧ fits n t h l m = true := by
    intro a ha
    obtain ⟨i, hi, e⟩ := List.mem_iff_getElem.mp ha
    obtain ⟨t, h, l, m, e1, ⟨q1, q2, q3⟩, h0, h1, h2⟩ := G.at' hi
    have q3 : t ≠ h := q3
    rw [List.getD_eq_getElem?_getD, List.getElem?_eq_getElem hi] at e1
    have e1 : arcs[i] = [t, h, l, m] := e1
    refine ⟨t, h, l, m, e ▸ e1, ?_⟩
    unfold fits
    dsimp only at q1 q2
    rw [if_neg (by simp [q1, q2, q3])]
    simp; omega
  have := G.le10
  have := G.n2
  exact ⟨fun a ha => let ⟨t, h, l, m, e, _⟩ := key a ha; ⟨t, h, l, m, e⟩, fun a ha => by obtain ⟨t, h, l, m, e, q⟩ := key a ha; rw [e]; exact q, by show arcs.length ≤ 1000; omega, by show 0 ≤ n ∧ n ≤ 1000; omega⟩
theorem net_in4 {n : Int} {arcs : List (List Int)} (h : NetOk (n, arcs)) {vs : List Int} : ∀ p ∈ arcs.zip vs, In4 n.toNat p.1 := by
  intro p hp
  have ha : p.1 ∈ arcs := (List.of_mem_zip (a := p.1) (b := p.2) hp).1
  obtain ⟨t, hh, l, m, e⟩ := h.four _ ha
  have := h.fit _ ha
  rw [e] at this
  obtain ⟨q1, q2, _⟩ := fits_of (n := n) this
  exact ⟨t, hh, l, m, e, by omega, by omega⟩
theorem Good.flow {n : Int} {arcs : List (List Int)} {fl : List Int} (G : Good n arcs fl) : isFlow n arcs fl = true := by
  unfold isFlow
  rw [decide_eq_true G.len, Bool.true_and, Bool.and_eq_true]
  refine ⟨?_, ?_⟩
  · rw [List.all_eq_true]
    intro p hp
    obtain ⟨i, hi, e⟩ := List.mem_iff_getElem.mp hp
    have hl := G.len
    rw [List.length_zip] at hi
    obtain ⟨t, h, l, m, e1, _, h0, h1, h2⟩ := G.at' (i := i) (by omega)
    have e2 : p = (arcs.getD i [], fl.getD i 0) := by
      rw [← e, List.getElem_zip, List.getD_eq_getElem?_getD, List.getElem?_eq_getElem (by omega), List.getD_eq_getElem?_getD, List.getElem?_eq_getElem (by omega)]; rfl
    rw [e2, e1]
    show (decide (l ≤ fl.getD i 0) && decide (fl.getD i 0 ≤ m)) = true
    rw [decide_eq_true h1, decide_eq_true h2]; rfl
  · rw [rep0, any_iff, decide_eq_true_eq]
    have hs := sur_len (arcs.zip fl) (List.replicate n.toNat 0)
    refine ext_getD (by rw [List.length_replicate]) fun v hv => ?_
    rw [hs] at hv
    rw [sur_get (v := v) _ _ (by rw [List.length_replicate]; exact net_in4 G.net) hv, rep_get, rep_get, zip_bal, show K6.bal (arcs.map ends) fl v = 0 from G.bal v]; rfl
end K6

namespace K6
open PySem L2 Evl Lg
/-- what the law's bound is -/
def lawB (arcs : List (List Int)) (arc way : Int) (mem : List Int) : Option Int :=
  if way = 1 then (if isE mem (arcs.getD arc.toNat []) then some (upVal arcs arc mem) else none)
  else (if isL mem (arcs.getD arc.toNat []) then some (loVal arcs arc mem) else none)
section
variable {P : Program} {w : World} {K : PySem.W.Frag} {mg : Str → Option Value} {base : Heap} {CI CN : Addr}
abbrev nLF : List Str := ["nodes", "arcs", "values", "rest", "k"]
theorem scLF : FnScope nLF ["nodes", "arcs", "values"] (defScope sLawFlow) := ⟨rfl, rfl, rfl, by decide +kernel, rfl, by decide +kernel, by decide +kernel⟩
def spLF : Sp := spX (ι := Int × List (List Int) × List Int) (fun i => [mk rI i.1, mk (rL (rT rI)) i.2.1, mk (rL rI) i.2.2]) (fun i => NetOk (i.1, i.2.1)) (fun i => .ok (im rB (isFlow i.1 i.2.1 i.2.2)))
theorem ok_lf {f : Addr} {fd : FuncData} (F : Fun K "_law_is_flow" "_law_is_flow" sLawFlow f fd) (T : Tp K mg CI CN) : FnOk P w K mg base (L2.CX P w) 1 f fd ["nodes", "arcs", "values"] spLF := by
  refine fn_ok F scLF (fun _ => rfl) fun ⟨n, arcs, vs⟩ B cdv A' outer0 s H E hp hr _ => ?_
  have hp : NetOk (n, arcs) := hp
  have hn : 0 ≤ n ∧ n ≤ 1000 := hp.lenN
  have hla : arcs.length ≤ 1000 := hp.lenA
  have nd := scLF.nd
  conv => arg 5; whnf
  show HT _ _ _ [some (im rI n), some (im (rL (rT rI)) arcs), some (im (rL rI) vs), none, none] _
  refine HT.when (TV.neI (EV.lenL (AV.cons (EV.var 2) AV.nil) T.len) (EV.lenL (AV.cons (EV.var 1) AV.nil) T.len)) (fun h => ?_) (fun h => ?_)
  · refine HT.ret EV.bl ?_
    show Rs.ok _ = Rs.ok _
    have : ¬ vs.length = arcs.length := by
      intro e
      simp [e] at h
    unfold isFlow
    rw [decide_eq_false this]; rfl
  have hlen : vs.length = arcs.length := by
    simp at h
    omega
  refine HT.set 3 (EV.rep (EV.fz (EV.lst (R := rI) (as := [0]) (AV.cons EV.int AV.nil) rfl (by decide))) (EV.var 0) (by simp; omega) (by omega)) ?_ nd
  refine HT.for (IV.rng1 (AV.cons (EV.lenL (AV.cons (EV.var 1) AV.nil) T.len) AV.nil) (by omega) T.rng) (fun k Γ => ∃ r : List Int, Γ = [some (im rI n), some (im (rL (rT rI)) arcs), some (im (rL rI) vs), some (ow rI r), none] ∧ r.length = n.toNat ∧ (∀ v : Nat, v < n.toNat → r.getD v 0 = (((arcs.zip vs).take k).map fun p => dl v (ends p.1) * p.2).sum) ∧ ((arcs.zip vs).take k).all inb = true)
    ⟨_, rfl, by rw [rep0, List.length_replicate], fun v _ => by rw [rep0, rep_get]; rfl, rfl⟩ ?_ ?_ (passes_of rfl)
  · rintro b' i y Γ' hb hi rfl ⟨r, rfl, hrl, hrv, hall⟩
    have hi : i < arcs.length := by omega
    have hx : arcs[i]? = some (arcs[i]) := List.getElem?_eq_getElem hi
    have hv : vs[i]? = some (vs.getD i 0) := gd (by omega)
    generalize vs.getD i 0 = x at hv
    obtain ⟨t, h, l, m, e⟩ := hp.four _ (List.mem_of_getElem? hx)
    have hfit := hp.fit _ (List.mem_of_getElem? hx)
    rw [e] at hx hfit
    obtain ⟨⟨t0, t1⟩, ⟨h0, h1⟩, _, _, _⟩ := fits_of (n := n) hfit
    have hz : (arcs.zip vs)[i]? = some ([t, h, l, m], x) := by
      rw [List.getElem?_zip_eq_some]; exact ⟨hx, hv⟩
    have ht1 : (arcs.zip vs).take (i + 1) = (arcs.zip vs).take i ++ [([t, h, l, m], x)] := by rw [List.take_add_one, hz]; rfl
    refine ⟨_, GV.name 4 nd, ?_⟩
    refine HT.when (TV.not (TV.leLe (EV.ixT (EV.ixL (EV.var 1) (EV.var 4) (atI_nat hx)) EV.int rfl) (EV.ixL (EV.var 2) (EV.var 4) (atI_nat hv)) (EV.ixT (EV.ixL (EV.var 1) (EV.var 4) (atI_nat hx)) EV.int rfl))) (fun hn => ?_) (fun hy => ?_)
    · refine HT.ret EV.bl ?_
      show Rs.ok _ = Rs.ok _
      have e : (arcs.zip vs).all inb = false := by
        refine Bool.eq_false_iff.mpr fun hA => ?_
        have q := List.all_eq_true.mp hA _ (List.mem_of_getElem? hz)
        have q : (decide (l ≤ x) && decide (x ≤ m)) = true := q
        rw [q] at hn
        exact absurd hn (by decide)
      unfold isFlow
      rw [e]; simp
    · refine HT.setI (m := t.toNat) 3 rfl (EV.sub (EV.ixOw 3 rfl (EV.ixT (EV.ixL (EV.var 1) (EV.var 4) (atI_nat hx)) EV.int rfl) (at_int 0 t0 (by omega))) (EV.ixL (EV.var 2) (EV.var 4) (atI_nat hv))) (EV.ixT (EV.ixL (EV.var 1) (EV.var 4) (atI_nat hx)) EV.int rfl) (ixN_of t0 (by omega)) ?_
      refine HT.setI (m := h.toNat) 3 rfl (EV.add (EV.ixOw 3 rfl (EV.ixT (EV.ixL (EV.var 1) (EV.var 4) (atI_nat hx)) EV.int rfl) (at_int 0 h0 (by rw [List.length_set]; omega))) (EV.ixL (EV.var 2) (EV.var 4) (atI_nat hv))) (EV.ixT (EV.ixL (EV.var 1) (EV.var 4) (atI_nat hx)) EV.int rfl) (ixN_of h0 (by rw [List.length_set]; omega)) ?_
      refine HT.done (by repeat (first | exact Le.nil | apply Le.keep | apply Le.drop)) ⟨_, rfl, by rw [List.length_set, List.length_set]; exact hrl, fun v hv' => ?_, ?_⟩
      · rw [ht1, List.map_append, List.sum_append, ← hrv v hv']
        show _ = r.getD v 0 + (dl v (t, h) * x + 0)
        rw [getD_set (by rw [List.length_set]; omega), getD_set (v := h.toNat) (by omega), getD_set (by omega)]
        unfold dl
        dsimp only
        by_cases e1 : t.toNat = v
        · by_cases e2 : h.toNat = v
          · have q1 : t = v := by omega
            have q2 : h = v := by omega
            rw [if_pos e2, if_pos (by omega), if_pos q2, if_pos q1, e1]; omega
          · have q1 : t = v := by omega
            rw [if_neg e2, if_pos e1, if_neg (by omega), if_pos q1, e1]; omega
        · by_cases e2 : h.toNat = v
          · rw [if_pos e2, if_neg (by omega), if_pos (by omega), if_neg (by omega), e2]; omega
          · rw [if_neg e2, if_neg e1, if_neg (by omega), if_neg (by omega)]; omega
      · rw [ht1, List.all_append, hall]
        simp only [List.all_cons, List.all_nil, Bool.and_true, Bool.true_and]
        show (decide (l ≤ x) && decide (x ≤ m)) = true
        cases q : (decide (l ≤ x) && decide (x ≤ m)) with
        | true => rfl
        | false => simp only [q] at hy; exact absurd hy (by decide)
  · rintro Γ' ⟨r, rfl, hrl, hrv, hall⟩
    have et : (arcs.zip vs).take ((arcs.length : Int)).toNat = arcs.zip vs := by
      rw [List.take_of_length_le]
      rw [List.length_zip]; omega
    rw [et] at hall
    refine HT.frz 3 rfl ?_
    refine HT.ret (EV.eqD (x := r) (y := (List.replicate n.toNat [(0 : Int)]).flatten) Dt.int.lst (by decide) hr.units (EV.var 3) (EV.fz (EV.rep (EV.fz (EV.lst (R := rI) (as := [0]) (AV.cons EV.int AV.nil) rfl (by decide))) (EV.var 0) (by simp; omega) (by omega)))) ?_
    show Rs.ok _ = Rs.ok _
    unfold isFlow
    rw [hall, decide_eq_true hlen, Bool.true_and, Bool.true_and, rep0, any_iff]
    have hs := sur_len (arcs.zip vs) (List.replicate n.toNat 0)
    rw [List.length_replicate] at hs
    have er : (arcs.zip vs).foldl surStep (List.replicate n.toNat 0) = r := by
      refine ext_getD (by omega) fun v hv => ?_
      rw [hs] at hv
      have := hrv v hv
      rw [et] at this
      rw [this, sur_get (v := v) _ _ (by rw [List.length_replicate]; exact net_in4 hp) (by rw [List.length_replicate]; exact hv), rep_get]; omega
    rw [er, hrl]
end
end K6

namespace K6
open PySem L2 Evl Lg
def b1K (arcs : List (List Int)) (arc : Int) (mem : List Int) (k : Nat) : Int := sumK (fun i => if isL mem (arcs.getD i []) then (arcs.getD i []).getD 3 0 else 0) k - sumK (fun i => if isE mem (arcs.getD i []) ∧ (i : Int) ≠ arc then (arcs.getD i []).getD 2 0 else 0) k
def b2K (arcs : List (List Int)) (arc : Int) (mem : List Int) (k : Nat) : Int := sumK (fun i => if isE mem (arcs.getD i []) then (arcs.getD i []).getD 2 0 else 0) k - sumK (fun i => if isL mem (arcs.getD i []) ∧ (i : Int) ≠ arc then (arcs.getD i []).getD 3 0 else 0) k
theorem up_eq (arcs : List (List Int)) (arc : Int) (mem : List Int) : upVal arcs arc mem = b1K arcs arc mem arcs.length := by
  unfold upVal b1K
  rw [nums_sum (isL mem) arcs (fun i => (arcs.getD i []).getD 3 0), nums_sumF (isE mem) arcs (fun i => (arcs.getD i []).getD 2 0) arc]
theorem lo_eq (arcs : List (List Int)) (arc : Int) (mem : List Int) : loVal arcs arc mem = b2K arcs arc mem arcs.length := by
  unfold loVal b2K
  rw [nums_sum (isE mem) arcs (fun i => (arcs.getD i []).getD 2 0), nums_sumF (isL mem) arcs (fun i => (arcs.getD i []).getD 3 0) arc]
theorem b1_step {arcs : List (List Int)} {arc : Int} {mem : List Int} {k : Nat} {t h l m : Int} (e : arcs.getD k [] = [t, h, l, m]) : b1K arcs arc mem (k + 1) = b1K arcs arc mem k + (if (decide (t ∈ mem) && !decide (h ∈ mem)) then m else 0) - (if (decide (h ∈ mem) && !decide (t ∈ mem)) ∧ (k : Int) ≠ arc then l else 0) := by
  unfold b1K
  show (sumK _ k + _) - (sumK _ k + _) = _
  dsimp only
  rw [e]
  show (sumK _ k + (if isL mem [t, h, l, m] then m else 0)) - (sumK _ k + (if isE mem [t, h, l, m] ∧ (k : Int) ≠ arc then l else 0)) = _
  rw [show isL mem [t, h, l, m] = (decide (t ∈ mem) && !decide (h ∈ mem)) from rfl, show isE mem [t, h, l, m] = (decide (h ∈ mem) && !decide (t ∈ mem)) from rfl]
  omega
theorem b2_step {arcs : List (List Int)} {arc : Int} {mem : List Int} {k : Nat} {t h l m : Int} (e : arcs.getD k [] = [t, h, l, m]) : b2K arcs arc mem (k + 1) = b2K arcs arc mem k + (if (decide (h ∈ mem) && !decide (t ∈ mem)) then l else 0) - (if (decide (t ∈ mem) && !decide (h ∈ mem)) ∧ (k : Int) ≠ arc then m else 0) := by
  unfold b2K
  show (sumK _ k + _) - (sumK _ k + _) = _
  dsimp only
  rw [e]
  show (sumK _ k + (if isE mem [t, h, l, m] then l else 0)) - (sumK _ k + (if isL mem [t, h, l, m] ∧ (k : Int) ≠ arc then m else 0)) = _
  rw [show isL mem [t, h, l, m] = (decide (t ∈ mem) && !decide (h ∈ mem)) from rfl, show isE mem [t, h, l, m] = (decide (h ∈ mem) && !decide (t ∈ mem)) from rfl]
  omega
section
variable {P : Program} {w : World} {K : PySem.W.Frag} {mg : Str → Option Value} {base : Heap} {CI CN : Addr}
abbrev nLB : List Str := ["arcs", "arc", "way", "members", "inside", "bound", "k", "into", "out"]
theorem scLB : FnScope nLB ["arcs", "arc", "way", "members"] (defScope sLawBound) := ⟨rfl, rfl, rfl, by decide +kernel, rfl, by decide +kernel, by decide +kernel⟩
def spLB : Sp := spX (ι := List (List Int) × Int × Int × List Int) (fun i => [mk (rL (rT rI)) i.1, mk rI i.2.1, mk rI i.2.2.1, mk (rL rI) i.2.2.2]) (fun i => (Four i.1 ∧ i.1.length ≤ 1000) ∧ (0 ≤ i.2.1 ∧ i.2.1 < i.1.length) ∧ (i.2.2.1 = 1 ∨ i.2.2.1 = -1)) (fun i => .ok (im (rO rI) (lawB i.1 i.2.1 i.2.2.1 i.2.2.2)))
theorem ok_lb {f : Addr} {fd : FuncData} (F : Fun K "_law_bound" "_law_bound" sLawBound f fd) (T : Tp K mg CI CN) : FnOk P w K mg base (L2.CX P w) 1 f fd ["arcs", "arc", "way", "members"] spLB := by
  refine fn_ok F scLB (fun _ => rfl) fun ⟨arcs, arc, way, mem⟩ B cdv A' outer0 s H E ⟨⟨h4, hla⟩, ⟨ha0, ha1⟩, hway⟩ hr _ => ?_
  have h4 : Four arcs := h4
  have hla : arcs.length ≤ 1000 := hla
  have ha0 : 0 ≤ arc := ha0
  have ha1 : arc < arcs.length := ha1
  have hway : way = 1 ∨ way = -1 := hway
  have nd := scLB.nd
  have item : ∀ i, i < arcs.length → ∃ t h l m, arcs[i]? = some [t, h, l, m] ∧ arcs.getD i [] = [t, h, l, m] := by
    intro i hi
    have hx : arcs[i]? = some (arcs[i]) := List.getElem?_eq_getElem hi
    obtain ⟨t, h, l, m, e⟩ := h4 _ (List.mem_of_getElem? hx)
    rw [e] at hx
    exact ⟨t, h, l, m, hx, by rw [List.getD_eq_getElem?_getD, hx]; rfl⟩
  obtain ⟨ta, ha, la, ma, hxa, hga⟩ := item arc.toNat (by omega)
  have hata : atI arcs arc = some [ta, ha, la, ma] := by
    have := atI_nat hxa
    rwa [show ((arc.toNat : Nat) : Int) = arc by omega] at this
  conv => arg 5; whnf
  show HT _ _ _ [some (im (rL (rT rI)) arcs), some (im rI arc), some (im rI way), some (im (rL rI) mem), none, none, none, none, none] _
  refine HT.set 4 (EV.fz (EV.lst (R := rB) (as := [decide (ta ∈ mem), decide (ha ∈ mem)]) (AV.cons (EV.inI (EV.ixT (EV.ixL (EV.var 0) (EV.var 1) hata) EV.int rfl) (EV.var 3)) (AV.cons (EV.inI (EV.ixT (EV.ixL (EV.var 0) (EV.var 1) hata) EV.int rfl) (EV.var 3)) AV.nil)) rfl (by show 2 ≤ 1000; decide))) ?_ nd
  refine HT.when (TV.neD (x := [decide (ta ∈ mem), decide (ha ∈ mem)]) (y := [decide (way = -1), decide (way = 1)]) Dt.bool.lst (by decide) hr.units (EV.var 4) (EV.fz (EV.lst (R := rB) (as := [decide (way = -1), decide (way = 1)]) (AV.cons (EV.eqI (EV.var 2) (EV.neg EV.int)) (AV.cons (EV.eqI (EV.var 2) EV.int) AV.nil)) rfl (by show 2 ≤ 1000; decide)))) (fun hn => ?_) (fun hy => ?_)
  · refine HT.ret (EV.non.to (S := rO rI) (y := none) fun F v h => h) ?_
    show Rs.ok _ = Rs.ok _
    have hn : ¬ [decide (ta ∈ mem), decide (ha ∈ mem)] = [decide (way = -1), decide (way = 1)] := by
      intro q
      rw [q] at hn
      simp at hn
    unfold lawB
    rw [hga, show isE mem [ta, ha, la, ma] = (decide (ha ∈ mem) && !decide (ta ∈ mem)) from rfl, show isL mem [ta, ha, la, ma] = (decide (ta ∈ mem) && !decide (ha ∈ mem)) from rfl]
    rcases hway with rfl | rfl <;> by_cases p1 : ta ∈ mem <;> by_cases p2 : ha ∈ mem <;> simp [p1, p2] at hn ⊢
  have hy : [decide (ta ∈ mem), decide (ha ∈ mem)] = [decide (way = -1), decide (way = 1)] := by
    by_cases q : [decide (ta ∈ mem), decide (ha ∈ mem)] = [decide (way = -1), decide (way = 1)]
    · exact q
    · exfalso; revert hy; rw [decide_eq_false q]; decide
  refine HT.set 5 EV.int ?_ nd
  refine HT.for (IV.rng1 (AV.cons (EV.lenL (AV.cons (EV.var 0) AV.nil) T.len) AV.nil) (by omega) T.rng) (fun k Γ => Γ = [some (im (rL (rT rI)) arcs), some (im rI arc), some (im rI way), some (im (rL rI) mem), some (im (rL rB) [decide (ta ∈ mem), decide (ha ∈ mem)]), some (im rI (if way = 1 then b1K arcs arc mem k else b2K arcs arc mem k)), none, none, none])
    (by rcases hway with rfl | rfl <;> rfl) ?_ ?_ (passes_of rfl)
  · rintro b' i y Γ' hb hi rfl rfl
    have hi : i < arcs.length := by omega
    obtain ⟨t, h, l, m, hx, hg⟩ := item i hi
    refine ⟨_, GV.name 6 nd, ?_⟩
    refine HT.set 7 (EV.andV (EV.inI (EV.ixT (EV.ixL (EV.var 0) (EV.var 6) (atI_nat hx)) EV.int rfl) (EV.var 3)) fun _ => EV.ninI (EV.ixT (EV.ixL (EV.var 0) (EV.var 6) (atI_nat hx)) EV.int rfl) (EV.var 3)) ?_ nd
    refine HT.set 8 (EV.andV (EV.inI (EV.ixT (EV.ixL (EV.var 0) (EV.var 6) (atI_nat hx)) EV.int rfl) (EV.var 3)) fun _ => EV.ninI (EV.ixT (EV.ixL (EV.var 0) (EV.var 6) (atI_nat hx)) EV.int rfl) (EV.var 3)) ?_ nd
    refine HT.ifSet 5 rfl (TV.and (TV.eqI (EV.var 2) EV.int) fun _ => TV.val (EV.var 8)) (fun _ => EV.add (EV.var 5) (EV.ixT (EV.ixL (EV.var 0) (EV.var 6) (atI_nat hx)) EV.int rfl)) ?_ nd
    refine HT.ifSet 5 rfl (TV.and3 (TV.eqI (EV.var 2) EV.int) (fun _ => TV.val (EV.var 7)) fun _ _ => TV.neI (EV.var 6) (EV.var 1)) (fun _ => EV.sub (EV.var 5) (EV.ixT (EV.ixL (EV.var 0) (EV.var 6) (atI_nat hx)) EV.int rfl)) ?_ nd
    refine HT.ifSet 5 rfl (TV.and (TV.eqI (EV.var 2) (EV.neg EV.int)) fun _ => TV.val (EV.var 7)) (fun _ => EV.add (EV.var 5) (EV.ixT (EV.ixL (EV.var 0) (EV.var 6) (atI_nat hx)) EV.int rfl)) ?_ nd
    refine HT.ifSet 5 rfl (TV.and3 (TV.eqI (EV.var 2) (EV.neg EV.int)) (fun _ => TV.val (EV.var 8)) fun _ _ => TV.neI (EV.var 6) (EV.var 1)) (fun _ => EV.sub (EV.var 5) (EV.ixT (EV.ixL (EV.var 0) (EV.var 6) (atI_nat hx)) EV.int rfl)) ?_ nd
    refine HT.done (Γ' := [some (im (rL (rT rI)) arcs), some (im rI arc), some (im rI way), some (im (rL rI) mem), some (im (rL rB) [decide (ta ∈ mem), decide (ha ∈ mem)]), some (im rI (if way = 1 then b1K arcs arc mem (i + 1) else b2K arcs arc mem (i + 1))), none, none, none]) ?_ rfl
    refine Le.keep (Le.keep (Le.keep (Le.keep (Le.keep ?_))))
    have e : ∀ {a b : Int} {Γ Γ' : Lg.Ctx}, a = b → Le Γ Γ' → Le (some (im rI a) :: Γ) (some (im rI b) :: Γ') := fun {a b Γ Γ'} q h => by subst q; exact Le.keep h
    refine e ?_ (Le.drop (Le.drop (Le.drop Le.nil)))
    rw [b1_step (arc := arc) (mem := mem) hg, b2_step (arc := arc) (mem := mem) hg]
    rcases hway with rfl | rfl
    · by_cases p1 : t ∈ mem <;> by_cases p2 : h ∈ mem <;> by_cases p3 : (i : Int) = arc <;> simp [p1, p2, p3]
    · by_cases p1 : t ∈ mem <;> by_cases p2 : h ∈ mem <;> by_cases p3 : (i : Int) = arc <;> simp [p1, p2, p3]
  · rintro Γ' rfl
    refine HT.ret ((EV.var 5).to (S := rO rI) (y := some (if way = 1 then b1K arcs arc mem ((arcs.length : Int)).toNat else b2K arcs arc mem ((arcs.length : Int)).toNat)) fun F v h => h) ?_
    show Rs.ok _ = Rs.ok _
    unfold lawB
    rw [hga, show isE mem [ta, ha, la, ma] = (decide (ha ∈ mem) && !decide (ta ∈ mem)) from rfl, show isL mem [ta, ha, la, ma] = (decide (ta ∈ mem) && !decide (ha ∈ mem)) from rfl, up_eq, lo_eq, show ((arcs.length : Int)).toNat = arcs.length by omega]
    rcases hway with rfl | rfl <;> by_cases p1 : ta ∈ mem <;> by_cases p2 : ha ∈ mem <;> simp [p1, p2] at hy ⊢
end
end K6

namespace K6
open PySem L2 Evl Lg PyProof.Rows
abbrev sLaw : Stmt := topS 18
theorem nums_iff {p : List Int → Bool} {arcs : List (List Int)} {k a : Nat} (ha : a < k) : ((a : Int) ∈ nums p arcs k) ↔ p (arcs.getD a []) = true := by
  constructor
  · intro h
    obtain ⟨i, h1, h2, h3⟩ := nums_mem h
    have : a = i := by omega
    subst this
    exact h3
  · intro h
    unfold nums
    exact List.mem_map.mpr ⟨a, List.mem_filter.mpr ⟨List.mem_range.mpr ha, h⟩, rfl⟩
theorem up_some {n : Int} {arcs : List (List Int)} {flow mem : List Int} (G : Good n arcs flow) (hm : mem.Nodup) {arc u : Int} (ha0 : 0 ≤ arc) (ha1 : arc < arcs.length) (h : lawB arcs arc 1 mem = some u) : arc ∈ nums (isE mem) arcs arcs.length ∧ upVal arcs arc mem = u ∧ flow.getD arc.toNat 0 ≤ u := by
  obtain ⟨a, rfl⟩ : ∃ a : Nat, arc = a := ⟨arc.toNat, by omega⟩
  unfold lawB at h
  rw [if_pos rfl] at h
  by_cases q : isE mem (arcs.getD ((a : Int)).toNat []) = true
  · rw [if_pos q] at h
    cases h
    exact ⟨(nums_iff (by omega)).mpr q, rfl, dual_up G hm (by omega) q⟩
  · rw [if_neg q] at h; cases h
theorem up_none {arcs : List (List Int)} {mem : List Int} {arc : Int} (ha0 : 0 ≤ arc) (ha1 : arc < arcs.length) (h : lawB arcs arc 1 mem = none) : ¬ arc ∈ nums (isE mem) arcs arcs.length := by
  obtain ⟨a, rfl⟩ : ∃ a : Nat, arc = a := ⟨arc.toNat, by omega⟩
  unfold lawB at h
  rw [if_pos rfl] at h
  intro q
  have q : isE mem (arcs.getD ((a : Int)).toNat []) = true := (nums_iff (by omega)).mp q
  rw [if_pos q] at h; cases h
theorem lo_some {n : Int} {arcs : List (List Int)} {flow mem : List Int} (G : Good n arcs flow) (hm : mem.Nodup) {arc u : Int} (ha0 : 0 ≤ arc) (ha1 : arc < arcs.length) (h : lawB arcs arc (-1) mem = some u) : arc ∈ nums (isL mem) arcs arcs.length ∧ loVal arcs arc mem = u ∧ u ≤ flow.getD arc.toNat 0 := by
  obtain ⟨a, rfl⟩ : ∃ a : Nat, arc = a := ⟨arc.toNat, by omega⟩
  unfold lawB at h
  rw [if_neg (by decide)] at h
  by_cases q : isL mem (arcs.getD ((a : Int)).toNat []) = true
  · rw [if_pos q] at h
    cases h
    exact ⟨(nums_iff (by omega)).mpr q, rfl, dual_lo G hm (by omega) q⟩
  · rw [if_neg q] at h; cases h
theorem lo_none {arcs : List (List Int)} {mem : List Int} {arc : Int} (ha0 : 0 ≤ arc) (ha1 : arc < arcs.length) (h : lawB arcs arc (-1) mem = none) : ¬ arc ∈ nums (isL mem) arcs arcs.length := by
  obtain ⟨a, rfl⟩ : ∃ a : Nat, arc = a := ⟨arc.toNat, by omega⟩
  unfold lawB at h
  rw [if_neg (by decide)] at h
  intro q
  have q : isL mem (arcs.getD ((a : Int)).toNat []) = true := (nums_iff (by omega)).mp q
  rw [if_pos q] at h; cases h
def wrongs (n : Int) : List (List Int) := [[0, n, 0, 1], [1, 1, 0, 0], [0, 1, -1, 2], [0, 1, 3, 2], [-1, 0, 0, 0]]
theorem wrong_no {n : Int} (hn : 2 ≤ n) {d : Int} (h0 : 0 ≤ d) (h1 : d < 5) : ∃ t h l m, (wrongs n).getD d.toNat [] = [t, h, l, m] ∧ fits n t h l m = false := by
  have : d = 0 ∨ d = 1 ∨ d = 2 ∨ d = 3 ∨ d = 4 := by omega
  rcases this with rfl | rfl | rfl | rfl | rfl
  · refine ⟨0, n, 0, 1, rfl, ?_⟩
    unfold fits
    rw [if_pos]
    simp
  · refine ⟨1, 1, 0, 0, rfl, ?_⟩
    unfold fits
    rw [if_pos]
    simp
  · refine ⟨0, 1, -1, 2, rfl, ?_⟩
    unfold fits
    split
    · rfl
    · rfl
  · refine ⟨0, 1, 3, 2, rfl, ?_⟩
    unfold fits
    split
    · rfl
    · rfl
  · refine ⟨-1, 0, 0, 0, rfl, ?_⟩
    unfold fits
    rw [if_pos]
    simp
def memK (d n : Int) : List Int := ((List.range n.toNat).filter fun (i : Nat) => decide (Builtin.bitAnd (d / 1000 / 2 ^ ((i : Int)).toNat) 1 = 1)).map fun (i : Nat) => (i : Int)
theorem memK_nodup (d n : Int) : (memK d n).Nodup := by
  unfold memK
  refine List.pairwise_map.mpr (List.Pairwise.imp ?_ (List.Pairwise.filter _ (List.nodup_range (n := n.toNat))))
  intro a b h e
  exact h (by omega)
theorem memK_len (d n : Int) : (memK d n).length ≤ n.toNat := by
  unfold memK
  rw [List.length_map]
  exact Nat.le_trans (List.length_filter_le _ _) (by rw [List.length_range]; exact Nat.le_refl _)
structure Tq (K : PySem.W.Frag) (mg : Str → Option Value) (CI CB : Addr) : Prop where
  nm : mg "CellguardError" = some (.ref CB)
  ni : mg "InvalidFlow" = some (.ref CI)
  EX : ExcC K CI
  kit : PySem.W.kitOne K (.ref CI) (.ref CI) = some true
  exm : PySem.W.exmOne K (.ref CI) (.ref CB) = some true
theorem Up.rfl' {b : Bs} : Up b b := ⟨rfl, Ex.refl _, fun _ h _ => h⟩
section
variable {P : Program} {w : World} {K : PySem.W.Frag} {mg : Str → Option Value} {base : Heap} {CI CN CB : Addr}
abbrev nLaw : List Str := ["script", "drawn", "nodes", "arcs", "flow", "digit", "wrong", "e", "network", "arc", "other", "values", "members", "way", "due", "found", "node"]
theorem scLaw : FnScope nLaw ["script"] (defScope sLaw) := ⟨rfl, rfl, rfl, by decide +kernel, rfl, by decide +kernel, by decide +kernel⟩
def spLaw (K : PySem.W.Frag) : Sp := spX (ι := List Int) (fun i => [mk (rSc K) i]) (fun i => i.length ≤ 63) (fun _ => .ok (im rB true))
theorem ok_law {f : Addr} {fd : FuncData} (F : Fun K "law" "law" sLaw f fd) (T : Tp K mg CI CN) (Tq : Tq K mg CI CB)
    (tCell : Kn P w K mg base 1 "_law_cell" ["script", "k"] (spCell K)) (tNum : Kn P w K mg base 1 "_law_numbers" ["script", "first", "most"] (spNum K))
    (tAny : Kn P w K mg base 1 "_law_any_network" ["numbers", "loose"] spAny) (tNet : KnI P w K mg base 2 CN "Network" ["self", "nodes", "arcs"] (spInit CI CN))
    (tArcs : KnM P w K mg base 1 CN "arcs" ["self"] (spArcs CN)) (tIs : Kn P w K mg base 2 "is_flow" ["network", "values"] (spIsFlow CN))
    (tLF : Kn P w K mg base 1 "_law_is_flow" ["nodes", "arcs", "values"] spLF) (tLB : Kn P w K mg base 1 "_law_bound" ["arcs", "arc", "way", "members"] spLB)
    (tUp : Kn P w K mg base 3 "upper_bound" ["network", "arc", "members"] (spUp CI CN)) (tLo : Kn P w K mg base 3 "lower_bound" ["network", "arc", "members"] (spLo CI CN)) :
    FnOk P w K mg base (L2.CX P w) 4 f fd ["script"] (spLaw K) := by
  refine fn_ok F scLaw (fun _ => rfl) fun ns B cdv A' outer0 s H E hp hr _ => ?_
  have hp : ns.length ≤ 63 := hp
  have nd := scLaw.nd
  have tk : Takes (cxOf (L2.CX P w) P w K mg base nLaw "law" (defScope sLaw) f cdv A' outer0 s H E) (fun cls d _ H => E cls d H) := takes_of rfl rfl rfl rfl
  conv => arg 5; whnf
  show HT _ _ _ [some (im (rSc K) ns), none, none, none, none, none, none, none, none, none, none, none, none, none, none, none, none] _
  refine HT.setR 1 (EVR.call tAny (hr.mono (by decide)) tk (AV.cons (EV.call (i := (ns, 2, 10)) tNum (hr.mono (by decide)) tk (AV.cons (EV.var 0) (AV.cons EV.int (AV.cons EV.int AV.nil))) ⟨hp, by show (0 : Int) ≤ 2 ∧ (2 : Int) ≤ 1000; decide, by show (0 : Int) ≤ 10 ∧ (10 : Int) ≤ 1000; decide⟩ rfl) (AV.cons EV.int AV.nil)) (numbers_ok ns 2 (by decide))) (fun s' hs => ?_) nd
  obtain ⟨⟨n, arcs, flow⟩, G, rfl⟩ := hs
  have G : Good n arcs flow := G
  have hn2 := G.n2
  have hlen := G.len
  have hl10 := G.le10
  have N := G.net
  refine HT.set 2 (EV.ixR0 (x := n) (y := arcs) (z := flow) (R := rI) (S := rL (rT rI)) (T := rL rI) (EV.var 1)) ?_ nd
  refine HT.set 3 (EV.ixR1 (x := n) (y := arcs) (z := flow) (R := rI) (S := rL (rT rI)) (T := rL rI) (EV.var 1)) ?_ nd
  refine HT.set 4 (EV.ixR2 (x := n) (y := arcs) (z := flow) (R := rI) (S := rL (rT rI)) (T := rL rI) (EV.var 1)) ?_ nd
  refine HT.set 5 (EV.abs (AV.cons (EV.call (i := (ns, 0)) tCell (hr.mono (by decide)) tk (AV.cons (EV.var 0) (AV.cons EV.int AV.nil)) (by show (0 : Int) ≤ 0; decide) rfl) AV.nil) T.abs) ?_ nd
  have hd0 : 0 ≤ absV' (cellV ns 0) := absV_nn _
  show HT _ _ _ [some (im (rSc K) ns), some (pref (n, arcs, flow)), some (im rI n), some (im (rL (rT rI)) arcs), some (im (rL rI) flow), some (im rI (absV' (cellV ns 0))), none, none, none, none, none, none, none, none, none, none, none] _
  generalize absV' (cellV ns 0) = d at hd0
  refine HT.set 6 (EV.ixL (EV.fz (EV.lst (R := rT rI) (as := wrongs n) (AV.cons (EV.tup (R := rI) (as := [0, n, 0, 1]) (AV.cons EV.int (AV.cons (EV.var 2) (AV.cons EV.int (AV.cons EV.int AV.nil)))) rfl (by show 4 ≤ 1000; decide))
    (AV.cons (EV.tup (R := rI) (as := [1, 1, 0, 0]) (AV.cons EV.int (AV.cons EV.int (AV.cons EV.int (AV.cons EV.int AV.nil)))) rfl (by decide))
    (AV.cons (EV.tup (R := rI) (as := [0, 1, -1, 2]) (AV.cons EV.int (AV.cons EV.int (AV.cons (EV.neg EV.int) (AV.cons EV.int AV.nil)))) rfl (by decide))
    (AV.cons (EV.tup (R := rI) (as := [0, 1, 3, 2]) (AV.cons EV.int (AV.cons EV.int (AV.cons EV.int (AV.cons EV.int AV.nil)))) rfl (by decide))
    (AV.cons (EV.tup (R := rI) (as := [-1, 0, 0, 0]) (AV.cons (EV.neg EV.int) (AV.cons EV.int (AV.cons EV.int (AV.cons EV.int AV.nil)))) rfl (by decide)) AV.nil))))) rfl (by show 5 ≤ 1000; decide)))
    (EV.mod (EV.var 5) EV.int (by decide)) (at_int [] (Int.emod_nonneg _ (by decide)) (Int.emod_lt_of_pos _ (by decide)))) ?_ nd
  obtain ⟨wt, wh, wl, wm, we, wf⟩ := wrong_no hn2.1 (d := d % 5) (Int.emod_nonneg _ (by decide)) (Int.emod_lt_of_pos _ (by decide))
  rw [we]
  refine HT.tryAs 7 ⟨rfl, by decide, .inl Tq.nm⟩ tk (fun W pn xe tk2 po hX => ?_) nd
  · refine HT.exprNo (EV.makeG (i := (n, arcs ++ [[wt, wh, wl, wm]])) (s := noS) tNet (hr.mono (by decide)) tk2 (AV.cons (EV.var 2) (AV.cons (EV.fz (EV.cat (EV.var 3) (EV.fz (EV.lst (R := rT rI) (as := [[wt, wh, wl, wm]]) (AV.cons (EV.var 6) AV.nil) rfl (by show 1 ≤ 1000; decide))) (by show arcs.length + 1 ≤ 100000; omega))) AV.nil)) ⟨?_, ?_⟩ ?_ ?_)
    · intro a ha
      rcases List.mem_append.mp ha with h | h
      · exact N.four a h
      · rw [List.mem_singleton.mp h]; exact ⟨_, _, _, _, rfl⟩
    · show (arcs ++ [[wt, wh, wl, wm]]).length ≤ 1000
      rw [List.length_append]; show arcs.length + 1 ≤ 1000; omega
    · intro y' h
      exfalso
      have h : (if (arcs ++ [[wt, wh, wl, wm]]).all (fitsL n) then Except.ok (n, arcs ++ [[wt, wh, wl, wm]]) else Except.error CI) = Except.ok y' := h
      rw [if_neg] at h
      · cases h
      · rw [List.all_append]
        show ¬ (_ && (fits n wt wh wl wm && true)) = true
        rw [wf]; simp
    · intro C h
      have h : (if (arcs ++ [[wt, wh, wl, wm]]).all (fitsL n) then Except.ok (n, arcs ++ [[wt, wh, wl, wm]]) else Except.error CI) = Except.error C := h
      rw [if_neg (by
        rw [List.all_append]
        show ¬ (_ && (fits n wt wh wl wm && true)) = true
        rw [wf]; simp)] at h
      cases h
      refine hX _ CI _ Up.rfl' Tq.exm fun a oe pn hz hf => ?_
      refine HT.when (TV.not (TV.val (EV.isE Tq.EX hz hf 7 rfl T.isi Tq.ni Tq.kit))) (fun h => absurd h (by decide)) (fun _ => ?_)
      refine HT.nil ?_
      show HT _ _ _ [some (im (rSc K) ns), some (pref (n, arcs, flow)), some (im rI n), some (im (rL (rT rI)) arcs), some (im (rL rI) flow), some (im rI d), some (im (rT rI) [wt, wh, wl, wm]), none, none, none, none, none, none, none, none, none, none] _
      refine HT.set 8 (EV.make (i := (n, arcs)) (y := (n, arcs)) tNet (hr.mono (by decide)) tk (AV.cons (EV.var 2) (AV.cons (EV.fz (EV.listOf (AV.cons (EV.var 3) AV.nil) T.lst)) AV.nil)) ⟨N.four, N.lenA⟩ (fun y' h => ?_) (fun C h => ?_)) ?_ nd
      · have h : (if arcs.all (fitsL n) then Except.ok (n, arcs) else Except.error CI) = Except.ok y' := h
        rw [if_pos (List.all_eq_true.mpr N.fit)] at h
        cases h; rfl
      · have h : (if arcs.all (fitsL n) then Except.ok (n, arcs) else Except.error CI) = Except.error C := h
        rw [if_pos (List.all_eq_true.mpr N.fit)] at h
        cases h
      refine HT.when (TV.or3 (TV.neI (EV.fld (fs := netF) (x := (n, arcs)) T.cn (EV.var 8) rfl T.nN) (EV.var 2)) (fun _ => TV.neD (x := arcs) (y := arcs) Dt.int.tup.lst (by decide) hr.units (EV.fz (EV.meth0 (i := (n, arcs)) tArcs (hr.mono (by decide)) tk (EV.var 8) (fun F v h => rObj.no h rfl) rfl trivial rfl)) (EV.var 3)) (fun _ _ => TV.notTrue (EV.call (i := ((n, arcs), flow)) tIs (hr.mono (by decide)) tk (AV.cons (EV.var 8) (AV.cons (EV.fz (EV.listOf (AV.cons (EV.var 4) AV.nil) T.lst)) AV.nil)) N rfl))) (fun h => ?_) (fun _ => ?_)
      · exfalso
        have h : (!decide (n = n) || (!decide (arcs = arcs) || !isFlow n arcs flow)) = true := h
        rw [G.flow] at h
        simp at h
      refine HT.when (TV.eqD (x := arcs) (y := []) Dt.int.tup.lst (by decide) hr.units (EV.var 3) (EV.fz (EV.lst (R := rT rI) (as := []) AV.nil rfl (by decide)))) (fun _ => HT.ret EV.bl rfl) (fun hne => ?_)
      have hne : arcs ≠ [] := by
        intro e
        rw [e] at hne
        exact absurd hne (by decide)
      have hpos : 0 < arcs.length := List.length_pos_iff.mpr hne
      refine HT.set 9 (EV.mod (EV.fdiv (EV.var 5) EV.int (by show CDiv d 5; exact ⟨by decide, by decide⟩)) (EV.lenL (AV.cons (EV.var 3) AV.nil) T.len) (by omega)) ?_ nd
      have ha0 : 0 ≤ d / 5 % (arcs.length : Int) := Int.emod_nonneg _ (by omega)
      have ha1 : d / 5 % (arcs.length : Int) < arcs.length := Int.emod_lt_of_pos _ (by omega)
      generalize d / 5 % (arcs.length : Int) = arc at ha0 ha1
      have hat : atI flow arc = some (flow.getD arc.toNat 0) := at_int 0 ha0 (by omega)
      refine HT.set 10 (EV.listOf (AV.cons (EV.var 4) AV.nil) T.lst) ?_ nd
      refine HT.setI (m := arc.toNat) 10 rfl (EV.add (EV.ixOw 10 rfl (EV.var 9) hat) (EV.ixL (EV.fz (EV.lst (R := rI) (as := [1, -1, 2]) (AV.cons EV.int (AV.cons (EV.neg EV.int) (AV.cons EV.int AV.nil))) rfl (by decide))) (EV.mod (EV.fdiv (EV.var 5) EV.int (by show CDiv d 100; exact ⟨by decide, by decide⟩)) EV.int (by decide)) (at_int 0 (Int.emod_nonneg _ (by decide)) (Int.emod_lt_of_pos _ (by decide))))) (EV.var 9) (ixN_of ha0 (by omega)) ?_
      generalize flow.set arc.toNat _ = other
      refine HT.frz 10 rfl ?_
      refine HT.for (IV.list (EV.fz (EV.lst (R := rL rI) (as := [other, flow.drop 1, flow ++ [0]]) (AV.cons (EV.var 10) (AV.cons (EV.fz (EV.from (m := 1) (EV.var 4) EV.int)) (AV.cons (EV.fz (EV.cat (EV.var 4) (EV.fz (EV.lst (R := rI) (as := [0]) (AV.cons EV.int AV.nil) rfl (by decide))) (by show flow.length + 1 ≤ 100000; omega))) AV.nil))) rfl (by show 3 ≤ 1000; decide))))
        (fun _ Γ => Γ = [some (im (rSc K) ns), some (pref (n, arcs, flow)), some (im rI n), some (im (rL (rT rI)) arcs), some (im (rL rI) flow), some (im rI d), some (im (rT rI) [wt, wh, wl, wm]), none, some (im (rNet CN) (n, arcs)), some (im rI arc), some (im (rL rI) other), none, none, none, none, none, none]) rfl ?_ ?_ (passes_of rfl)
      · rintro b' i y Γ' hb hi ⟨vs, hvs, rfl⟩ rfl
        refine ⟨_, GV.name 11 nd, ?_⟩
        refine HT.when (TV.nev (EV.call (i := ((n, arcs), vs)) tIs (hr.mono (by decide)) tk (AV.cons (EV.var 8) (AV.cons (EV.var 11) AV.nil)) N rfl) (EV.call (i := (n, arcs, vs)) tLF (hr.mono (by decide)) tk (AV.cons (EV.var 2) (AV.cons (EV.var 3) (AV.cons (EV.var 11) AV.nil))) N rfl) (v := .bl (isFlow n arcs vs)) (w := .bl (isFlow n arcs vs)) (fun _ _ h => h) (fun _ _ h => h) rfl) (fun h => ?_) (fun _ => ?_)
        · exfalso
          rw [decide_eq_true rfl] at h
          exact absurd h (by decide)
        · exact HT.done (by repeat (first | exact Le.nil | apply Le.keep | apply Le.drop)) rfl
      rintro Γ' rfl
      refine HT.setC 12 (LV.lcR1 (j := 16) (S := rI) (fun i => decide (Builtin.bitAnd (d / 1000 / 2 ^ ((i : Int)).toNat) 1 = 1)) (fun i => (i : Int)) (IV.rng1 (AV.cons (EV.var 2) AV.nil) (by omega) T.rng) nd (by show blkC nLaw (defScope sLaw) _ [("node", 16)] = true; decide +kernel) (by omega)
        (fun b3 j s H0 C cl fp hb3 hj => ?_) (fun b3 j s H0 C cl fp hb3 hj hp => EV.var 16) (fun _ _ _ _ _ => pg_name nd rfl (Or.inl rfl))) ?_ (sw_true rfl rfl rfl (by decide +kernel))
      · exact TV.eqI (EV.band (EV.shr (EV.fdiv (EV.var 5) EV.int (by show CDiv d 1000; exact ⟨by decide, by decide⟩)) (EV.var 16) (by omega)) EV.int) EV.int
      refine HT.frz 12 rfl ?_
      have hmn := memK_nodup d n
      have hml := memK_len d n
      show HT _ _ _ [some (im (rSc K) ns), some (pref (n, arcs, flow)), some (im rI n), some (im (rL (rT rI)) arcs), some (im (rL rI) flow), some (im rI d), some (im (rT rI) [wt, wh, wl, wm]), none, some (im (rNet CN) (n, arcs)), some (im rI arc), some (im (rL rI) other), none, some (im (rL rI) (memK d n)), none, none, none, none] _
      generalize memK d n = mem at hmn hml
      refine HT.for (IV.tup (EV.tup (R := rI) (as := [-1, 1]) (AV.cons (EV.neg EV.int) (AV.cons EV.int AV.nil)) rfl (by decide)))
        (fun _ Γ => Γ = [some (im (rSc K) ns), some (pref (n, arcs, flow)), some (im rI n), some (im (rL (rT rI)) arcs), some (im (rL rI) flow), some (im rI d), some (im (rT rI) [wt, wh, wl, wm]), none, some (im (rNet CN) (n, arcs)), some (im rI arc), some (im (rL rI) other), none, some (im (rL rI) mem), none, none, none, none]) rfl ?_ ?_ (passes_of rfl)
      · rintro b' i y Γ' hb hi ⟨way, hway, rfl⟩ rfl
        have hway : way = 1 ∨ way = -1 := by
          rcases i with _ | _ | i
          · right; simpa using hway.symm
          · left; simpa using hway.symm
          · simp at hway
        refine ⟨_, GV.name 13 nd, ?_⟩
        refine HT.set 14 (EV.call (i := (arcs, arc, way, mem)) tLB (hr.mono (by decide)) tk (AV.cons (EV.var 3) (AV.cons (EV.var 9) (AV.cons (EV.var 13) (AV.cons (EV.var 12) AV.nil)))) ⟨⟨N.four, N.lenA⟩, ⟨ha0, ha1⟩, hway⟩ rfl) ?_ nd
        show HT _ _ _ [some (im (rSc K) ns), some (pref (n, arcs, flow)), some (im rI n), some (im (rL (rT rI)) arcs), some (im (rL rI) flow), some (im rI d), some (im (rT rI) [wt, wh, wl, wm]), none, some (im (rNet CN) (n, arcs)), some (im rI arc), some (im (rL rI) other), none, some (im (rL rI) mem), some (im rI way), some (im (rO rI) (lawB arcs arc way mem)), none, none] _
        have hdu : ∃ o, lawB arcs arc way mem = o := ⟨_, rfl⟩
        obtain ⟨o, hdu⟩ := hdu
        rw [hdu]
        have hat' : atI flow arc = some (flow.getD arc.toNat 0) := hat
        cases o with
        | none =>
          refine HT.tryAs 7 ⟨rfl, by decide, .inl Tq.nm⟩ tk (fun W pn xe tk2 po hX => ?_) nd
          have hraise := hX [some (im (rSc K) ns), some (pref (n, arcs, flow)), some (im rI n), some (im (rL (rT rI)) arcs), some (im (rL rI) flow), some (im rI d), some (im (rT rI) [wt, wh, wl, wm]), none, some (im (rNet CN) (n, arcs)), some (im rI arc), some (im (rL rI) other), none, some (im (rL rI) mem), some (im rI way), some (im (rO rI) none), none, none] CI _ Up.rfl' Tq.exm fun a oe pn hz hf => by
            refine HT.when (TV.or (TV.not (TV.val (EV.isE Tq.EX hz hf 7 rfl T.isi Tq.ni Tq.kit))) fun _ => TV.notNon (EV.var 14) fun F v x h => by rw [show v = V.int x from h]; exact fun z => nomatch z) (fun h => absurd h (by decide)) (fun _ => ?_)
            refine HT.set 15 (EV.non.to (S := rO rI) (y := none) fun F v h => h) (HT.nil ?_) nd
            refine HT.when (TV.or (TV.nev (EV.var 15) (EV.var 14) (v := .non) (w := .non) (fun _ _ h => h) (fun _ _ h => h) rfl) fun _ => TV.and (c2 := false) (TV.notNon (EV.var 14) fun F v x h => by rw [show v = V.int x from h]; exact fun z => nomatch z) fun h => absurd h (by decide)) (fun h => ?_) (fun _ => ?_)
            · exfalso; revert h; rw [decide_eq_true rfl]; decide
            · exact HT.done (by repeat (first | exact Le.nil | apply Le.keep | apply Le.drop)) rfl
          refine HT.ite (TV.eqI (EV.var 13) EV.int) (fun h => ?_) (fun h => ?_)
          · have hw : way = 1 := of_decide_eq_true h
            subst hw
            have hn := up_none ha0 ha1 hdu
            have hres : (if arc ∈ nums (isE mem) arcs arcs.length then Rs.ok (im rI (upVal arcs arc mem)) else Rs.err CI) = Rs.err CI := if_neg hn
            refine HT.setNo 15 (EV.callR (i := ((n, arcs), arc, mem)) tUp (hr.mono (by decide)) tk2 (AV.cons (EV.var 8) (AV.cons (EV.var 9) (AV.cons (EV.fz (EV.listOf (AV.cons (EV.var 12) AV.nil) T.lst)) AV.nil))) ⟨N, ⟨ha0, by show arc ≤ 1000; omega⟩, by show mem.length ≤ 1000; omega⟩ (fun s' h => ?_) (fun C h => ?_)) nd
            · exact nomatch (hres.symm.trans h)
            · cases hres.symm.trans h
              exact hraise
          · have hw : way = -1 := by
              rcases hway with rfl | rfl
              · exact absurd h (by decide)
              · rfl
            subst hw
            have hn := lo_none ha0 ha1 hdu
            have hres : (if arc ∈ nums (isL mem) arcs arcs.length then Rs.ok (im rI (loVal arcs arc mem)) else Rs.err CI) = Rs.err CI := if_neg hn
            refine HT.setNo 15 (EV.callR (i := ((n, arcs), arc, mem)) tLo (hr.mono (by decide)) tk2 (AV.cons (EV.var 8) (AV.cons (EV.var 9) (AV.cons (EV.fz (EV.listOf (AV.cons (EV.var 12) AV.nil) T.lst)) AV.nil))) ⟨N, ⟨ha0, by show arc ≤ 1000; omega⟩, by show mem.length ≤ 1000; omega⟩ (fun s' h => ?_) (fun C h => ?_)) nd
            · exact nomatch (hres.symm.trans h)
            · cases hres.symm.trans h
              exact hraise
        | some u =>
          have hcmp : ¬ way * u < way * flow.getD arc.toNat 0 := by
            rcases hway with rfl | rfl
            · have := (up_some G hmn ha0 ha1 hdu).2.2
              omega
            · have := (lo_some G hmn ha0 ha1 hdu).2.2
              omega
          refine HT.tryAs 7 ⟨rfl, by decide, .inl Tq.nm⟩ tk (fun W pn xe tk2 po _ => ?_) nd
          refine HT.ite (TV.eqI (EV.var 13) EV.int) (fun h => ?_) (fun h => ?_)
          · have hw : way = 1 := of_decide_eq_true h
            have hs : arc ∈ nums (isE mem) arcs arcs.length ∧ upVal arcs arc mem = u ∧ flow.getD arc.toNat 0 ≤ u := by
              subst hw; exact up_some G hmn ha0 ha1 hdu
            have hres : (if arc ∈ nums (isE mem) arcs arcs.length then Rs.ok (im rI (upVal arcs arc mem)) else Rs.err CI) = Rs.ok (im rI u) := by rw [if_pos hs.1, hs.2.1]
            refine HT.set 15 (EV.call (i := ((n, arcs), arc, mem)) (s := im rI u) tUp (hr.mono (by decide)) tk2 (AV.cons (EV.var 8) (AV.cons (EV.var 9) (AV.cons (EV.fz (EV.listOf (AV.cons (EV.var 12) AV.nil) T.lst)) AV.nil))) ⟨N, ⟨ha0, by show arc ≤ 1000; omega⟩, by show mem.length ≤ 1000; omega⟩ hres) ?_ nd
            refine HT.nil (HT.nil ?_)
            refine HT.when (TV.or (TV.nev (EV.var 15) (EV.var 14) (v := .int u) (w := .int u) (fun _ _ h => h) (fun _ _ h => h) rfl) fun _ => TV.and (TV.notNon (EV.var 14) fun F v x h => by rw [show v = V.int x from h]; exact fun z => nomatch z) fun _ => TV.gt (EV.mul (EV.var 13) (EV.ixL (EV.var 4) (EV.var 9) hat') (Or.inl (by omega))) (EV.mul (EV.var 13) ((EV.var 14).to (S := rI) (y := u) fun F v h => h) (Or.inl (by omega)))) (fun h => ?_) (fun _ => ?_)
            · exfalso; rw [decide_eq_true rfl, decide_eq_false hcmp] at h; simp at h
            · exact HT.done (by repeat (first | exact Le.nil | apply Le.keep | apply Le.drop)) rfl
          · have hw : way = -1 := by
              rcases hway with rfl | rfl
              · exact absurd h (by decide)
              · rfl
            have hs : arc ∈ nums (isL mem) arcs arcs.length ∧ loVal arcs arc mem = u ∧ u ≤ flow.getD arc.toNat 0 := by
              subst hw; exact lo_some G hmn ha0 ha1 hdu
            have hres : (if arc ∈ nums (isL mem) arcs arcs.length then Rs.ok (im rI (loVal arcs arc mem)) else Rs.err CI) = Rs.ok (im rI u) := by rw [if_pos hs.1, hs.2.1]
            refine HT.set 15 (EV.call (i := ((n, arcs), arc, mem)) (s := im rI u) tLo (hr.mono (by decide)) tk2 (AV.cons (EV.var 8) (AV.cons (EV.var 9) (AV.cons (EV.fz (EV.listOf (AV.cons (EV.var 12) AV.nil) T.lst)) AV.nil))) ⟨N, ⟨ha0, by show arc ≤ 1000; omega⟩, by show mem.length ≤ 1000; omega⟩ hres) ?_ nd
            refine HT.nil (HT.nil ?_)
            refine HT.when (TV.or (TV.nev (EV.var 15) (EV.var 14) (v := .int u) (w := .int u) (fun _ _ h => h) (fun _ _ h => h) rfl) fun _ => TV.and (TV.notNon (EV.var 14) fun F v x h => by rw [show v = V.int x from h]; exact fun z => nomatch z) fun _ => TV.gt (EV.mul (EV.var 13) (EV.ixL (EV.var 4) (EV.var 9) hat') (Or.inl (by omega))) (EV.mul (EV.var 13) ((EV.var 14).to (S := rI) (y := u) fun F v h => h) (Or.inl (by omega)))) (fun h => ?_) (fun _ => ?_)
            · exfalso; rw [decide_eq_true rfl, decide_eq_false hcmp] at h; simp at h
            · exact HT.done (by repeat (first | exact Le.nil | apply Le.keep | apply Le.drop)) rfl
      · rintro Γ' rfl
        exact HT.ret EV.bl rfl
end
end K6

namespace K6
open PySem L2 Evl Lg PyProof.Rows
theorem all_mk {P : Program} {w : World} {K : PySem.W.Frag} {h : Heap} {mg : Str → Option Value} {fa CI CN CB fFits fInit fArcs fIsFlow fCross fUpper fLower fCell fNumbers fAnyNet fLawFlow fLawBound fLaw : Addr} (X : K.In h) (G : h.Ns mainGlobals mg) (hfa : mg "law" = some (.ref fa))
    {odFits anFits odInit anInit odArcs anArcs odIsFlow anIsFlow odCross anCross odUpper anUpper odLower anLower odCell anCell odNumbers anNumbers odAnyNet anAnyNet odLawFlow anLawFlow odLawBound anLawBound odLaw anLaw : Option Addr} {slFits slInit slArcs slIsFlow slCross slUpper slLower slCell slNumbers slAnyNet slLawFlow slLawBound slLaw : Array (Option Value)} {ocFits kVFits dcFits pmFits cdFits ctFits ocInit kVInit dcInit pmInit cdInit ctInit ocArcs kVArcs dcArcs pmArcs cdArcs ctArcs ocIsFlow kVIsFlow dcIsFlow pmIsFlow cdIsFlow ctIsFlow ocCross kVCross dcCross pmCross cdCross ctCross ocUpper kVUpper dcUpper pmUpper cdUpper ctUpper ocLower kVLower dcLower pmLower cdLower ctLower ocCell kVCell dcCell pmCell cdCell ctCell ocNumbers kVNumbers dcNumbers pmNumbers cdNumbers ctNumbers ocAnyNet kVAnyNet dcAnyNet pmAnyNet cdAnyNet ctAnyNet ocLawFlow kVLawFlow dcLawFlow pmLawFlow cdLawFlow ctLawFlow ocLawBound kVLawBound dcLawBound pmLawBound cdLawBound ctLawBound ocLaw kVLaw dcLaw pmLaw cdLaw ctLaw : Value}
    (aB : PySem.W.nsIn K mainGlobals "CellguardError" = some (some (.ref CB))) (aI : PySem.W.nsIn K mainGlobals "InvalidFlow" = some (some (.ref CI))) (aN : PySem.W.nsIn K mainGlobals "Network" = some (some (.ref CN)))
    (aFits : PySem.W.nsIn K mainGlobals "arc_fits" = some (some (.ref fFits)))
    (lFits : K.lookup fFits = some ⟨ocFits, odFits, .func (PySem.W.fnOf "arc_fits" "arc_fits" (defArgs sFits) (defBody sFits) (defScope sFits) .none kVFits dcFits pmFits anFits cdFits ctFits), slFits⟩) (cFits : PySem.W.codeIn K cdFits "arc_fits" = true) (kFits : PySem.W.keepIn K (.ref fFits) = true)
    (aInit : PySem.W.findIn K (.ref CN) "__init__" = some (some (.ref fInit))) (iInit : PySem.W.isFn K (.ref fInit) = true)
    (lInit : K.lookup fInit = some ⟨ocInit, odInit, .func (PySem.W.fnOf "__init__" "Network.__init__" (defArgs sInit) (defBody sInit) (defScope sInit) .none kVInit dcInit pmInit anInit cdInit ctInit), slInit⟩) (cInit : PySem.W.codeIn K cdInit "Network.__init__" = true) (kInit : PySem.W.keepIn K (.ref fInit) = true)
    (aArcs : PySem.W.findIn K (.ref CN) "arcs" = some (some (.ref fArcs))) (iArcs : PySem.W.isFn K (.ref fArcs) = true)
    (lArcs : K.lookup fArcs = some ⟨ocArcs, odArcs, .func (PySem.W.fnOf "arcs" "Network.arcs" (defArgs sArcs) (defBody sArcs) (defScope sArcs) .none kVArcs dcArcs pmArcs anArcs cdArcs ctArcs), slArcs⟩) (cArcs : PySem.W.codeIn K cdArcs "Network.arcs" = true) (kArcs : PySem.W.keepIn K (.ref fArcs) = true)
    (aIsFlow : PySem.W.nsIn K mainGlobals "is_flow" = some (some (.ref fIsFlow)))
    (lIsFlow : K.lookup fIsFlow = some ⟨ocIsFlow, odIsFlow, .func (PySem.W.fnOf "is_flow" "is_flow" (defArgs sIsFlow) (defBody sIsFlow) (defScope sIsFlow) .none kVIsFlow dcIsFlow pmIsFlow anIsFlow cdIsFlow ctIsFlow), slIsFlow⟩) (cIsFlow : PySem.W.codeIn K cdIsFlow "is_flow" = true) (kIsFlow : PySem.W.keepIn K (.ref fIsFlow) = true)
    (aCross : PySem.W.nsIn K mainGlobals "crossing_arcs" = some (some (.ref fCross)))
    (lCross : K.lookup fCross = some ⟨ocCross, odCross, .func (PySem.W.fnOf "crossing_arcs" "crossing_arcs" (defArgs sCross) (defBody sCross) (defScope sCross) .none kVCross dcCross pmCross anCross cdCross ctCross), slCross⟩) (cCross : PySem.W.codeIn K cdCross "crossing_arcs" = true) (kCross : PySem.W.keepIn K (.ref fCross) = true)
    (aUpper : PySem.W.nsIn K mainGlobals "upper_bound" = some (some (.ref fUpper)))
    (lUpper : K.lookup fUpper = some ⟨ocUpper, odUpper, .func (PySem.W.fnOf "upper_bound" "upper_bound" (defArgs sUpper) (defBody sUpper) (defScope sUpper) .none kVUpper dcUpper pmUpper anUpper cdUpper ctUpper), slUpper⟩) (cUpper : PySem.W.codeIn K cdUpper "upper_bound" = true) (kUpper : PySem.W.keepIn K (.ref fUpper) = true)
    (aLower : PySem.W.nsIn K mainGlobals "lower_bound" = some (some (.ref fLower)))
    (lLower : K.lookup fLower = some ⟨ocLower, odLower, .func (PySem.W.fnOf "lower_bound" "lower_bound" (defArgs sLower) (defBody sLower) (defScope sLower) .none kVLower dcLower pmLower anLower cdLower ctLower), slLower⟩) (cLower : PySem.W.codeIn K cdLower "lower_bound" = true) (kLower : PySem.W.keepIn K (.ref fLower) = true)
    (aCell : PySem.W.nsIn K mainGlobals "_law_cell" = some (some (.ref fCell)))
    (lCell : K.lookup fCell = some ⟨ocCell, odCell, .func (PySem.W.fnOf "_law_cell" "_law_cell" (defArgs sCell) (defBody sCell) (defScope sCell) .none kVCell dcCell pmCell anCell cdCell ctCell), slCell⟩) (cCell : PySem.W.codeIn K cdCell "_law_cell" = true) (kCell : PySem.W.keepIn K (.ref fCell) = true)
    (aNumbers : PySem.W.nsIn K mainGlobals "_law_numbers" = some (some (.ref fNumbers)))
    (lNumbers : K.lookup fNumbers = some ⟨ocNumbers, odNumbers, .func (PySem.W.fnOf "_law_numbers" "_law_numbers" (defArgs sNumbers) (defBody sNumbers) (defScope sNumbers) .none kVNumbers dcNumbers pmNumbers anNumbers cdNumbers ctNumbers), slNumbers⟩) (cNumbers : PySem.W.codeIn K cdNumbers "_law_numbers" = true) (kNumbers : PySem.W.keepIn K (.ref fNumbers) = true)
    (aAnyNet : PySem.W.nsIn K mainGlobals "_law_any_network" = some (some (.ref fAnyNet)))
    (lAnyNet : K.lookup fAnyNet = some ⟨ocAnyNet, odAnyNet, .func (PySem.W.fnOf "_law_any_network" "_law_any_network" (defArgs sAnyNet) (defBody sAnyNet) (defScope sAnyNet) .none kVAnyNet dcAnyNet pmAnyNet anAnyNet cdAnyNet ctAnyNet), slAnyNet⟩) (cAnyNet : PySem.W.codeIn K cdAnyNet "_law_any_network" = true) (kAnyNet : PySem.W.keepIn K (.ref fAnyNet) = true)
    (aLawFlow : PySem.W.nsIn K mainGlobals "_law_is_flow" = some (some (.ref fLawFlow)))
    (lLawFlow : K.lookup fLawFlow = some ⟨ocLawFlow, odLawFlow, .func (PySem.W.fnOf "_law_is_flow" "_law_is_flow" (defArgs sLawFlow) (defBody sLawFlow) (defScope sLawFlow) .none kVLawFlow dcLawFlow pmLawFlow anLawFlow cdLawFlow ctLawFlow), slLawFlow⟩) (cLawFlow : PySem.W.codeIn K cdLawFlow "_law_is_flow" = true) (kLawFlow : PySem.W.keepIn K (.ref fLawFlow) = true)
    (aLawBound : PySem.W.nsIn K mainGlobals "_law_bound" = some (some (.ref fLawBound)))
    (lLawBound : K.lookup fLawBound = some ⟨ocLawBound, odLawBound, .func (PySem.W.fnOf "_law_bound" "_law_bound" (defArgs sLawBound) (defBody sLawBound) (defScope sLawBound) .none kVLawBound dcLawBound pmLawBound anLawBound cdLawBound ctLawBound), slLawBound⟩) (cLawBound : PySem.W.codeIn K cdLawBound "_law_bound" = true) (kLawBound : PySem.W.keepIn K (.ref fLawBound) = true)
    (aLaw : PySem.W.nsIn K mainGlobals "law" = some (some (.ref fLaw)))
    (lLaw : K.lookup fLaw = some ⟨ocLaw, odLaw, .func (PySem.W.fnOf "law" "law" (defArgs sLaw) (defBody sLaw) (defScope sLaw) .none kVLaw dcLaw pmLaw anLaw cdLaw ctLaw), slLaw⟩) (cLaw : PySem.W.codeIn K cdLaw "law" = true) (kLaw : PySem.W.keepIn K (.ref fLaw) = true)
    (pg : PySem.W.plainGet K CN Str.empty = true)
    (hd : PySem.W.hasDictIn K CN = true)
    (po : PySem.W.plainOver K CN = true)
    (sa : PySem.W.findIn K (.ref CN) "__setattr__" = some (some (.builtin "object.__setattr__")))
    (mk : PySem.W.makesIn K CN = true)
    (kc : PySem.W.keepIn K (.ref CN) = true)
    (nN : PySem.W.findIn K (.ref CN) "nodes" = some none)
    (nA : PySem.W.findIn K (.ref CN) "_arcs" = some none)
    (xI : PySem.W.excIn K CI [.type "ValueError", .type "Exception", .type "BaseException", .type "object"] "ValueError.__new__" = true)
    (kI : PySem.W.keepIn K (.ref CI) = true)
    (bI : PySem.W.subIn K (.ref CI) (.type "BaseException") = some true)
    (tI : PySem.W.typeIn K (.ref CI) = some (.type "type"))
    (bB : PySem.W.subIn K (.ref CB) (.type "BaseException") = some true)
    (dB : PySem.W.hasDictIn K CB = true)
    (tB : PySem.W.typeIn K (.ref CB) = some (.type "type"))
    (sIB : PySem.W.subIn K (.ref CI) (.ref CB) = some true)
    (e1 : PySem.W.findIn K (.ref CI) "__getattribute__" = some (some (.builtin "BaseException.__getattribute__")))
    (e2 : PySem.W.findIn K (.ref CI) "__getattr__" = some none)
    (e4 : PySem.W.hasDictIn K CI = true)
    (e5 : PySem.W.findIn K (.ref CI) "__class__" = some (some (.builtin "object.__class__")))
    (e6 : PySem.W.specialIn K (.builtin "object.__class__") "__get__" = some (some (.builtin "getset_descriptor.__get__")))
    (e7 : PySem.W.takesIn K (.builtin "object.__class__") = some true)
    (e8 : PySem.W.mroIn K CI (.type "object") = some true)
    (kt : PySem.W.kitOne K (.ref CI) (.ref CI) = some true)
    (zrange : PySem.W.nsIn K mainGlobals "range" = some none)
    (zlen : PySem.W.nsIn K mainGlobals "len" = some none)
    (zenumerate : PySem.W.nsIn K mainGlobals "enumerate" = some none)
    (zlist : PySem.W.nsIn K mainGlobals "list" = some none)
    (zzip : PySem.W.nsIn K mainGlobals "zip" = some none)
    (zany : PySem.W.nsIn K mainGlobals "any" = some none)
    (zsum : PySem.W.nsIn K mainGlobals "sum" = some none)
    (zabs : PySem.W.nsIn K mainGlobals "abs" = some none)
    (zint : PySem.W.nsIn K mainGlobals "int" = some none)
    (zmax : PySem.W.nsIn K mainGlobals "max" = some none)
    (zisinstance : PySem.W.nsIn K mainGlobals "isinstance" = some none)
    : ∃ fd : FuncData, (∀ (s : Shared) (v : Value), BindsTo s fd ⟨[v], []⟩ [("script", v)]) ∧ ∀ base : Heap, K.In base → base.Ns mainGlobals mg → FnOk P w K mg base (L2.CX P w) 4 fa fd ["script"] (spLaw K) := by
  have e := hfa.symm.trans (PySem.W.mg_of X G aLaw)
  cases e
  have N : ∀ {x : Str}, PySem.W.nsIn K mainGlobals x = some none → mg x = none := fun h => PySem.W.mg_none_of X G h
  have T : Tp K mg CI CN := ⟨N zrange, N zlen, N zenumerate, N zlist, N zzip, N zany, N zsum, N zabs, N zint, N zmax, N zisinstance, ⟨xI, PySem.W.mg_of X G aI, kI, bI, tI⟩, ⟨pg, hd, po, sa⟩, nN, nA⟩
  have T2 : Tq K mg CI CB := ⟨PySem.W.mg_of X G aB, PySem.W.mg_of X G aI, ⟨e1, e2, bI, e4, e5, e6, e7, e8⟩, kt, PySem.W.exm_ref bB dB tB sIB⟩
  have FFits := fun_mk (st := sFits) lFits cFits kFits
  have bFits := FFits.binds (ps := ["nodes", "arc"]) fun _ _ _ _ _ _ us hl => match us, hl with | [_, _], _ => rfl
  have FInit := fun_mk (st := sInit) lInit cInit kInit
  have bInit := FInit.binds (ps := ["self", "nodes", "arcs"]) fun _ _ _ _ _ _ us hl => match us, hl with | [_, _, _], _ => rfl
  have FArcs := fun_mk (st := sArcs) lArcs cArcs kArcs
  have bArcs := FArcs.binds (ps := ["self"]) fun _ _ _ _ _ _ us hl => match us, hl with | [_], _ => rfl
  have FIsFlow := fun_mk (st := sIsFlow) lIsFlow cIsFlow kIsFlow
  have bIsFlow := FIsFlow.binds (ps := ["network", "values"]) fun _ _ _ _ _ _ us hl => match us, hl with | [_, _], _ => rfl
  have FCross := fun_mk (st := sCross) lCross cCross kCross
  have bCross := FCross.binds (ps := ["network", "members"]) fun _ _ _ _ _ _ us hl => match us, hl with | [_, _], _ => rfl
  have FUpper := fun_mk (st := sUpper) lUpper cUpper kUpper
  have bUpper := FUpper.binds (ps := ["network", "arc", "members"]) fun _ _ _ _ _ _ us hl => match us, hl with | [_, _, _], _ => rfl
  have FLower := fun_mk (st := sLower) lLower cLower kLower
  have bLower := FLower.binds (ps := ["network", "arc", "members"]) fun _ _ _ _ _ _ us hl => match us, hl with | [_, _, _], _ => rfl
  have FCell := fun_mk (st := sCell) lCell cCell kCell
  have bCell := FCell.binds (ps := ["script", "k"]) fun _ _ _ _ _ _ us hl => match us, hl with | [_, _], _ => rfl
  have FNumbers := fun_mk (st := sNumbers) lNumbers cNumbers kNumbers
  have bNumbers := FNumbers.binds (ps := ["script", "first", "most"]) fun _ _ _ _ _ _ us hl => match us, hl with | [_, _, _], _ => rfl
  have FAnyNet := fun_mk (st := sAnyNet) lAnyNet cAnyNet kAnyNet
  have bAnyNet := FAnyNet.binds (ps := ["numbers", "loose"]) fun _ _ _ _ _ _ us hl => match us, hl with | [_, _], _ => rfl
  have FLawFlow := fun_mk (st := sLawFlow) lLawFlow cLawFlow kLawFlow
  have bLawFlow := FLawFlow.binds (ps := ["nodes", "arcs", "values"]) fun _ _ _ _ _ _ us hl => match us, hl with | [_, _, _], _ => rfl
  have FLawBound := fun_mk (st := sLawBound) lLawBound cLawBound kLawBound
  have bLawBound := FLawBound.binds (ps := ["arcs", "arc", "way", "members"]) fun _ _ _ _ _ _ us hl => match us, hl with | [_, _, _, _], _ => rfl
  have FLaw := fun_mk (st := sLaw) lLaw cLaw kLaw
  refine ⟨PySem.W.fnOf "law" "law" (defArgs sLaw) (defBody sLaw) (defScope sLaw) .none kVLaw dcLaw pmLaw anLaw cdLaw ctLaw, fun s v => .of_eq rfl, fun base _ _ => ?_⟩
  have KFits : Kn P w K mg base 1 "arc_fits" ["nodes", "arc"] spFits := ⟨_, _, ok_fits FFits, PySem.W.mg_of X G aFits, kFits, bFits⟩
  have KArcs : KnM P w K mg base 1 CN "arcs" ["self"] (spArcs CN) := ⟨⟨_, _, ok_arcs FArcs T, ⟨aArcs, iArcs, kArcs⟩, bArcs⟩, T.cn⟩
  have KCross : Kn P w K mg base 2 "crossing_arcs" ["network", "members"] (spCross CN) := ⟨_, _, ok_cross FCross T KArcs, PySem.W.mg_of X G aCross, kCross, bCross⟩
  exact ok_law FLaw T T2 ⟨_, _, ok_cell FCell T, PySem.W.mg_of X G aCell, kCell, bCell⟩ ⟨_, _, ok_num FNumbers T, PySem.W.mg_of X G aNumbers, kNumbers, bNumbers⟩ ⟨_, _, ok_any FAnyNet T, PySem.W.mg_of X G aAnyNet, kAnyNet, bAnyNet⟩
    ⟨_, _, ok_init FInit T KFits, ⟨mk, aInit, iInit, kc⟩, PySem.W.mg_of X G aN, bInit⟩ KArcs ⟨_, _, ok_isFlow FIsFlow T KArcs, PySem.W.mg_of X G aIsFlow, kIsFlow, bIsFlow⟩
    ⟨_, _, ok_lf FLawFlow T, PySem.W.mg_of X G aLawFlow, kLawFlow, bLawFlow⟩ ⟨_, _, ok_lb FLawBound T, PySem.W.mg_of X G aLawBound, kLawBound, bLawBound⟩
    ⟨_, _, ok_up FUpper T KArcs KCross, PySem.W.mg_of X G aUpper, kUpper, bUpper⟩ ⟨_, _, ok_lo FLower T KArcs KCross, PySem.W.mg_of X G aLower, kLower, bLower⟩
theorem walk {l : PySem.W.OpenLaw} {q : Program} {loose : List Str} {XP : (Str → Option Value) → Heap → Prop} {YP : World → Heap → Prop} {d : DefRec} {K : Params → PySem.W.Frag} (hn : l.most = some 63) (hdf : d.params.defaults = [])
    (hY : ∀ (w : World) (h : Heap), YP w h → (K w.params).In h)
    (F : ∀ (w : World) (mg : Str → Option Value) (fa : Addr) (h : Heap), (K w.params).In h → h.Ns mainGlobals mg → mg d.name = some (.ref fa) →
      ∃ fd : FuncData, (∀ (s : Shared) (u : Value), BindsTo s fd ⟨[u], []⟩ [("script", u)]) ∧ ∀ base : Heap, (K w.params).In base → base.Ns mainGlobals mg → FnOk l.prog w (K w.params) mg base (L2.CX l.prog w) 4 fa fd ["script"] (spLaw (K w.params))) :
    PySem.W.WalkO q loose XP YP l.row.toRowW d [] (fun f vs => PySem.call f vs) :=
  L2.walk_of (n := 63) (k := 4) (x := "script") (CX := fun w => L2.CX l.prog w) (sp := fun w => spLaw (K w.params)) hn (by decide) hdf ⟨rfl, by decide, by decide⟩ hY F
    (fun _ H a ns hl _ hS => ⟨ns, H, Ex.refl H, Ims.cons ⟨a, rfl, hS⟩ Ims.nil, hl, fun s hs v F' H' l' _ p _ => by cases hs; exact p.2, fun C hC => nomatch hC⟩)
    fun _ _ _ _ _ ⟨_, _, _, _, _, _, _, _, _, _, _, _, z⟩ => z
end K6
open PySem PySem.W PyProof.Rows
set_option maxRecDepth 100000 in
set_option maxHeartbeats 0 in
theorem PySem.Challenge.cw_cellguard_k06_bounds_of_sets_holds : PySem.Challenge.rw_cellguard_k06_bounds_of_sets.Holds := by
  w_on; o_law; k_head; (case hw => w_witness2)
  k_fill
  refine K6.walk (l := PySem.Challenge.rw_cellguard_k06_bounds_of_sets) rfl rfl (fun w h Y => PySem.W.kIn_of Y) ?F
  case F =>
    intro w mg fa h KX G hmg
    refine' K6.all_mk KX G hmg ?aB ?aI ?aN ?aFits ?lFits ?cFits ?kFits ?aInit ?iInit ?lInit ?cInit ?kInit ?aArcs ?iArcs ?lArcs ?cArcs ?kArcs ?aIsFlow ?lIsFlow ?cIsFlow ?kIsFlow ?aCross ?lCross ?cCross ?kCross ?aUpper ?lUpper ?cUpper ?kUpper ?aLower ?lLower ?cLower ?kLower ?aCell ?lCell ?cCell ?kCell ?aNumbers ?lNumbers ?cNumbers ?kNumbers ?aAnyNet ?lAnyNet ?cAnyNet ?kAnyNet ?aLawFlow ?lLawFlow ?cLawFlow ?kLawFlow ?aLawBound ?lLawBound ?cLawBound ?kLawBound ?aLaw ?lLaw ?cLaw ?kLaw ?pg ?hd ?po ?sa ?mk ?kc ?nN ?nA ?xI ?kI ?bI ?tI ?bB ?dB ?tB ?sIB ?e1 ?e2 ?e4 ?e5 ?e6 ?e7 ?e8 ?kt ?zrange ?zlen ?zenumerate ?zlist ?zzip ?zany ?zsum ?zabs ?zint ?zmax ?zisinstance
    (case aB => k_is)
    (case aI => k_is)
    (case aN => k_is)
    (case aFits => k_is)
    (case lFits => k_is)
    (case cFits => k_is)
    (case kFits => k_is)
    (case aInit => k_is)
    (case iInit => k_is)
    (case lInit => k_is)
    (case cInit => k_is)
    (case kInit => k_is)
    (case aArcs => k_is)
    (case iArcs => k_is)
    (case lArcs => k_is)
    (case cArcs => k_is)
    (case kArcs => k_is)
    (case aIsFlow => k_is)
    (case lIsFlow => k_is)
    (case cIsFlow => k_is)
    (case kIsFlow => k_is)
    (case aCross => k_is)
    (case lCross => k_is)
    (case cCross => k_is)
    (case kCross => k_is)
    (case aUpper => k_is)
    (case lUpper => k_is)
    (case cUpper => k_is)
    (case kUpper => k_is)
    (case aLower => k_is)
    (case lLower => k_is)
    (case cLower => k_is)
    (case kLower => k_is)
    (case aCell => k_is)
    (case lCell => k_is)
    (case cCell => k_is)
    (case kCell => k_is)
    (case aNumbers => k_is)
    (case lNumbers => k_is)
    (case cNumbers => k_is)
    (case kNumbers => k_is)
    (case aAnyNet => k_is)
    (case lAnyNet => k_is)
    (case cAnyNet => k_is)
    (case kAnyNet => k_is)
    (case aLawFlow => k_is)
    (case lLawFlow => k_is)
    (case cLawFlow => k_is)
    (case kLawFlow => k_is)
    (case aLawBound => k_is)
    (case lLawBound => k_is)
    (case cLawBound => k_is)
    (case kLawBound => k_is)
    (case aLaw => k_is)
    (case lLaw => k_is)
    (case cLaw => k_is)
    (case kLaw => k_is)
    (case pg => k_is)
    (case hd => k_is)
    (case po => k_is)
    (case sa => k_is)
    (case mk => k_is)
    (case kc => k_is)
    (case nN => k_is)
    (case nA => k_is)
    (case xI => k_exc)
    (case kI => k_is)
    (case bI => k_is)
    (case tI => k_is)
    (case bB => k_is)
    (case dB => k_is)
    (case tB => k_is)
    (case sIB => first | rfl | k_is)
    (case e1 => k_is)
    (case e2 => k_is)
    (case e4 => k_is)
    (case e5 => k_is)
    (case e6 => k_is)
    (case e7 => k_is)
    (case e8 => k_is)
    (case kt => first | k_is | rfl)
    (case zrange => k_is)
    (case zlen => k_is)
    (case zenumerate => k_is)
    (case zlist => k_is)
    (case zzip => k_is)
    (case zany => k_is)
    (case zsum => k_is)
    (case zabs => k_is)
    (case zint => k_is)
    (case zmax => k_is)
    (case zisinstance => k_is)
