import PyProof.Rows.All
import Wide.All
import OpenK.AllK
import Wide.FinOn
import HandS.ForMost
import HandS.ForExc
import HandS.Evl
import HandS.FStr
import HandS.RaiseMore
import HandS.ExcIs
import HandS.Style
import HandS.ExcCtx
import HandS.SuiteRaise
import HandS.Walk
import HandS.DictComp
import HandS.Small
import HandS.More
import HandS.Conv
import HandS.Flow
import HandS.Records
import HandS.NoneIn
import HandS.ExcInit
import HandS.ExcField
import HandS.ClsMeth
import HandS.IsInst
import HandS.HotCalls
import HandS.Text
import HandS.Strs
import KE.GoesMore
import KE.GoesZip
import KE.GoesEnum
import HandS.Iter
import HandS.Zip
import HandS.WordsDict
import PySem.Challenge.RW_cellguard_k02_plans
set_option Elab.async false
set_option linter.all false
set_option maxRecDepth 100000
set_option maxHeartbeats 4000000
/-! A logic of slots: what each name of a frame holds, as data (im) or as a list of its own (ow). -/
namespace Lg
open PySem L2 Evl

/-- how data of a type is told at an address -/
structure Rl (α : Type) where
  r : Hp → V → α → Prop
  m : ∀ {H H' : Hp} {v : V} {a : α}, Ex H H' → r H v a → r H' v a

/-- item by item -/
inductive All2 {α : Type} (p : V → α → Prop) : List V → List α → Prop
  | nil : All2 p [] []
  | cons {v : V} {a : α} {vs : List V} {as : List α} : p v a → All2 p vs as → All2 p (v :: vs) (a :: as)
theorem All2.imp {α : Type} {p q : V → α → Prop} (h : ∀ v a, p v a → q v a) : ∀ {vs as}, All2 p vs as → All2 q vs as
  | _, _, .nil => .nil
  | _, _, .cons x t => .cons (h _ _ x) (t.imp h)
theorem All2.len {α : Type} {p : V → α → Prop} : ∀ {vs as}, All2 p vs as → vs.length = as.length
  | _, _, .nil => rfl
  | _, _, .cons _ t => by simp [t.len]
theorem All2.app {α : Type} {p : V → α → Prop} : ∀ {vs as ws bs}, All2 p vs as → All2 p ws bs → All2 p (vs ++ ws) (as ++ bs)
  | _, _, _, _, .nil, t => t
  | _, _, _, _, .cons x s, t => .cons x (s.app t)
theorem All2.get {α : Type} {p : V → α → Prop} : ∀ {vs as} {i : Nat} {a : α}, All2 p vs as → as[i]? = some a → ∃ v, vs[i]? = some v ∧ p v a
  | _, _, _, _, .nil, h => by simp at h
  | _, _, 0, a, .cons x _, h => by simp at h; subst h; exact ⟨_, rfl, x⟩
  | _, _, i + 1, a, .cons _ t, h => by
    obtain ⟨v, h1, h2⟩ := t.get (i := i) (a := a) (by simpa using h)
    exact ⟨v, by simpa using h1, h2⟩
theorem All2.getV {α : Type} {p : V → α → Prop} : ∀ {vs as} {i : Nat} {v : V}, All2 p vs as → vs[i]? = some v → ∃ a, as[i]? = some a ∧ p v a
  | _, _, _, _, .nil, h => by simp at h
  | _, _, 0, a, .cons x _, h => by simp at h; subst h; exact ⟨_, rfl, x⟩
  | _, _, i + 1, a, .cons _ t, h => by
    obtain ⟨v, h1, h2⟩ := t.getV (i := i) (v := a) (by simpa using h)
    exact ⟨v, by simpa using h1, h2⟩
theorem All2.set {α : Type} {p : V → α → Prop} {v : V} {a : α} (x : p v a) : ∀ {vs as} (i : Nat), All2 p vs as → All2 p (vs.set i v) (as.set i a)
  | _, _, _, .nil => .nil
  | _, _, 0, .cons _ t => .cons x t
  | _, _, i + 1, .cons y t => .cons y (All2.set x i t)
theorem All2.rep {α : Type} {p : V → α → Prop} {vs : List V} {as : List α} (h : All2 p vs as) : ∀ k : Nat, All2 p (List.replicate k vs).flatten (List.replicate k as).flatten
  | 0 => .nil
  | k + 1 => by
    rw [List.replicate_succ, List.replicate_succ, List.flatten_cons, List.flatten_cons]
    exact h.app (All2.rep h k)
theorem All2.drop {α : Type} {p : V → α → Prop} : ∀ {vs as} (n : Nat), All2 p vs as → All2 p (vs.drop n) (as.drop n)
  | _, _, 0, h => h
  | _, _, _ + 1, .nil => .nil
  | _, _, n + 1, .cons _ t => All2.drop n t
theorem All2.take {α : Type} {p : V → α → Prop} : ∀ {vs as} (n : Nat), All2 p vs as → All2 p (vs.take n) (as.take n)
  | _, _, 0, _ => .nil
  | _, _, _ + 1, .nil => .nil
  | _, _, n + 1, .cons x t => .cons x (All2.take n t)

/-! ### data -/
def rI : Rl Int := ⟨fun _ v i => v = .int i, fun _ h => h⟩
def rB : Rl Bool := ⟨fun _ v b => v = .bl b, fun _ h => h⟩
def rS : Rl Str := ⟨fun _ v x => v = .str x, fun _ h => h⟩
def rU : Rl Unit := ⟨fun _ v _ => v = .non, fun _ h => h⟩
/-- None or data -/
def rO {α : Type} (R : Rl α) : Rl (Option α) := ⟨fun H v o => match o with | none => v = .non | some a => R.r H v a, fun {H H' v a} e h => by
  cases a with
  | none => exact h
  | some a => exact R.m e h⟩
def rL {α : Type} (R : Rl α) : Rl (List α) :=
  ⟨fun H v as => ∃ p xs, v = .ref p ∧ H p = some (.lst xs) ∧ All2 (R.r H) xs as, fun {H H' v as} e ⟨p, xs, h1, h2, h3⟩ => ⟨p, xs, h1, e p _ h2, h3.imp fun _ _ => R.m e⟩⟩
/-- a tuple of items of one type -/
def rT {α : Type} (R : Rl α) : Rl (List α) :=
  ⟨fun H v as => ∃ p xs, v = .ref p ∧ H p = some (.tup xs) ∧ All2 (R.r H) xs as, fun {H H' v as} e ⟨p, xs, h1, h2, h3⟩ => ⟨p, xs, h1, e p _ h2, h3.imp fun _ _ => R.m e⟩⟩
/-- a list or a tuple: which -/
def rQ {α : Type} (R : Rl α) : Rl (Bool × List α) :=
  ⟨fun H v as => (as.1 = true → (rT R).r H v as.2) ∧ (as.1 = false → (rL R).r H v as.2), fun {H H' v as} e ⟨h1, h2⟩ => ⟨fun b => (rT R).m e (h1 b), fun b => (rL R).m e (h2 b)⟩⟩
/-- a pair, a triple -/
def rP {α β : Type} (R : Rl α) (S : Rl β) : Rl (α × β) :=
  ⟨fun H v c => ∃ p x y, v = .ref p ∧ H p = some (.tup [x, y]) ∧ R.r H x c.1 ∧ S.r H y c.2, fun {H H' v c} e ⟨p, x, y, h1, h2, h3, h4⟩ => ⟨p, x, y, h1, e p _ h2, R.m e h3, S.m e h4⟩⟩
def rP3 {α β γ : Type} (R : Rl α) (S : Rl β) (T : Rl γ) : Rl (α × β × γ) :=
  ⟨fun H v c => ∃ p x y z, v = .ref p ∧ H p = some (.tup [x, y, z]) ∧ R.r H x c.1 ∧ S.r H y c.2.1 ∧ T.r H z c.2.2, fun {H H' v c} e ⟨p, x, y, z, h1, h2, h3, h4, h5⟩ => ⟨p, x, y, z, h1, e p _ h2, R.m e h3, S.m e h4, T.m e h5⟩⟩
/-- the script -/
def rSc (K : PySem.W.Frag) : Rl (List Int) :=
  ⟨fun H v ns => ∃ p, v = .ref p ∧ SqL K H p (ns.map V.int), fun {H H' v as} e ⟨p, h1, h2⟩ => ⟨p, h1, ex_l e h2⟩⟩

/-! ### slots -/
structure Sl where
  P : Hp → Hp → V → List Addr → Prop
  m : ∀ {F F' H H' : Hp} {v : V} {l : List Addr}, Ex F F' → (∀ a ∈ l, H' a = H a) → P F H v l → P F' H' v l
  t : ∀ {F H : Hp} {v : V} {l : List Addr}, P F H v l → ∀ a ∈ l, H a ≠ none
  d : ∀ {F H : Hp} {v : V} {l : List Addr}, P F H v l → l.Nodup
/-- data, never changed -/
def im {α : Type} (R : Rl α) (a : α) : Sl where
  P := fun F _ v l => l = [] ∧ R.r F v a
  m := fun e _ h => ⟨h.1, R.m e h.2⟩
  t := fun h a ha => by rw [h.1] at ha; cases ha
  d := fun h => by rw [h.1]; exact List.nodup_nil
/-- a list of one's own -/
def ow {α : Type} (R : Rl α) (as : List α) : Sl where
  P := fun F H v l => ∃ p xs, v = .ref p ∧ l = [p] ∧ H p = some (.lst xs) ∧ All2 (R.r F) xs as
  m := fun e k ⟨p, xs, h1, h2, h3, h4⟩ => ⟨p, xs, h1, h2, by rw [k p (by rw [h2]; exact List.mem_singleton.mpr rfl)]; exact h3, h4.imp fun _ _ => R.m e⟩
  t := fun ⟨p, xs, h1, h2, h3, h4⟩ a ha => by
    rw [h2] at ha
    rw [List.mem_singleton.mp ha, h3]
    exact fun z => nomatch z
  d := fun ⟨p, xs, h1, h2, h3, h4⟩ => by rw [h2]; simp
/-- one value -/
def vx (w : V) : Sl where
  P := fun _ _ v l => l = [] ∧ v = w
  m := fun _ _ h => h
  t := fun h a ha => by rw [h.1] at ha; cases ha
  d := fun h => by rw [h.1]; exact List.nodup_nil

abbrev Ctx := List (Option Sl)
def SgL (F H : Hp) : Ctx → L2.St → List Addr → Prop
  | [], [], l => l = []
  | none :: Γ, _ :: σ, l => SgL F H Γ σ l
  | some s :: Γ, o :: σ, l => ∃ v l1 l2, o = some v ∧ l = l1 ++ l2 ∧ s.P F H v l1 ∧ SgL F H Γ σ l2
  | _, _, _ => False
structure Bs where
  F : Hp
  B : Hp
structure Gd (b : Bs) (F H : Hp) (l : List Addr) : Prop where
  ef : Ex b.F F
  eb : Ex b.B H
  e : Ex F H
  k : ∀ a, b.F a = none → b.B a ≠ none → F a = none
  nd : l.Nodup
  of : ∀ a ∈ l, F a = none
  ob : ∀ a ∈ l, b.B a = none
structure Gw (F H F' H' : Hp) : Prop where
  f : Ex F F'
  h : Ex H H'
  e : Ex F' H'
  k : ∀ a, F a = none → H a ≠ none → F' a = none
theorem ex_none {H H' : Hp} {a : Addr} (e : Ex H H') (h : H' a = none) : H a = none := fresh_back e h
theorem ex_some {H H' : Hp} {a : Addr} (e : Ex H H') (h : H a ≠ none) : H' a ≠ none := fun z => h (fresh_back e z)
theorem ex_eq {H H' : Hp} {a : Addr} (e : Ex H H') (h : H a ≠ none) : H' a = H a := by
  cases q : H a with
  | none => exact absurd q h
  | some o => exact e a o q
theorem Gw.refl {F H : Hp} (e : Ex F H) : Gw F H F H := ⟨Ex.refl F, Ex.refl H, e, fun _ h _ => h⟩
theorem Gw.trans {F H F1 H1 F2 H2 : Hp} (x : Gw F H F1 H1) (y : Gw F1 H1 F2 H2) : Gw F H F2 H2 :=
  ⟨x.f.trans y.f, x.h.trans y.h, y.e, fun a h1 h2 => y.k a (x.k a h1 h2) (ex_some x.h h2)⟩
theorem Gd.grow {b : Bs} {F H F' H' : Hp} {l : List Addr} (g : Gd b F H l) (t : ∀ a ∈ l, H a ≠ none) (w : Gw F H F' H') : Gd b F' H' l :=
  ⟨g.ef.trans w.f, g.eb.trans w.h, w.e, fun a h1 h2 => w.k a (g.k a h1 h2) (ex_some g.eb h2), g.nd, fun a ha => w.k a (g.of a ha) (t a ha), g.ob⟩
/-- a new object, told as data -/
theorem Gw.new {F H : Hp} {p : Addr} {o : HO} (e : Ex F H) (hp : H p = none) : Gw F H (upd F p o) (upd H p o) :=
  ⟨Ex.new (ex_none e hp), Ex.new hp, fun a u h => by
    by_cases q : a = p
    · subst q; rw [upd_same] at h ⊢; exact h
    · rw [upd_ne q] at h ⊢; exact e a u h, fun a h1 h2 => by
    rw [upd_ne (fun q => h2 (by rw [q]; exact hp))]; exact h1⟩
/-- a new object, one's own -/
theorem Gw.own {F H : Hp} {p : Addr} {o : HO} (e : Ex F H) (hp : H p = none) : Gw F H F (upd H p o) :=
  ⟨Ex.refl F, Ex.new hp, e.trans (Ex.new hp), fun _ h _ => h⟩

theorem SgL.t {F H : Hp} : ∀ {Γ : Ctx} {σ : L2.St} {l : List Addr}, SgL F H Γ σ l → ∀ a ∈ l, H a ≠ none
  | [], [], l, h, a, ha => by
    have h : l = [] := h
    rw [h] at ha; cases ha
  | [], _ :: _, _, h, _, _ => h.elim
  | _ :: _, [], _, h, _, _ => by cases ‹Option Sl› <;> exact h.elim
  | none :: Γ, _ :: σ, l, h, a, ha => SgL.t (Γ := Γ) (σ := σ) h a ha
  | some s :: Γ, o :: σ, l, h, a, ha => by
    obtain ⟨v, l1, l2, rfl, rfl, hs, hr⟩ := h
    rcases List.mem_append.mp ha with q | q
    · exact s.t hs a q
    · exact SgL.t hr a q
theorem SgL.m {F F' H H' : Hp} (e : Ex F F') : ∀ {Γ : Ctx} {σ : L2.St} {l : List Addr}, (∀ a ∈ l, H' a = H a) → SgL F H Γ σ l → SgL F' H' Γ σ l
  | [], [], _, _, h => h
  | [], _ :: _, _, _, h => h.elim
  | _ :: _, [], _, _, h => by cases ‹Option Sl› <;> exact h.elim
  | none :: Γ, _ :: σ, l, k, h => SgL.m (Γ := Γ) (σ := σ) e k h
  | some s :: Γ, o :: σ, l, k, h => by
    obtain ⟨v, l1, l2, rfl, rfl, hs, hr⟩ := h
    exact ⟨v, l1, l2, rfl, rfl, s.m e (fun a ha => k a (List.mem_append_left _ ha)) hs, SgL.m e (fun a ha => k a (List.mem_append_right _ ha)) hr⟩
theorem SgL.grow {F H F' H' : Hp} {Γ : Ctx} {σ : L2.St} {l : List Addr} (w : Gw F H F' H') (h : SgL F H Γ σ l) : SgL F' H' Γ σ l :=
  SgL.m w.f (fun a ha => ex_eq w.h (SgL.t h a ha)) h
/-- what the i-th slot holds -/
theorem SgL.get {F H : Hp} {s : Sl} : ∀ {Γ : Ctx} {σ : L2.St} {l : List Addr} {i : Nat}, SgL F H Γ σ l → Γ[i]? = some (some s) → ∃ v l1, σ[i]? = some (some v) ∧ s.P F H v l1 ∧ ∀ a ∈ l1, a ∈ l
  | [], _, _, _, _, h => by simp at h
  | _ :: _, [], _, _, h, _ => by cases ‹Option Sl› <;> exact h.elim
  | none :: Γ, _ :: σ, l, 0, _, h => by simp at h
  | none :: Γ, _ :: σ, l, i + 1, g, h => by
    have h : Γ[i]? = some (some s) := by simpa using h
    obtain ⟨v, l1, h1, h2, h3⟩ := SgL.get (Γ := Γ) (σ := σ) (l := l) (i := i) g h
    exact ⟨v, l1, by simpa using h1, h2, h3⟩
  | some s' :: Γ, o :: σ, l, 0, g, h => by
    obtain ⟨v, l1, l2, rfl, rfl, hs, _⟩ := g
    have e : s' = s := by simpa using h
    subst e
    exact ⟨v, l1, rfl, hs, fun a ha => List.mem_append_left _ ha⟩
  | some s' :: Γ, o :: σ, l, i + 1, g, h => by
    obtain ⟨v, l1, l2, rfl, rfl, _, hr⟩ := g
    have h : Γ[i]? = some (some s) := by simpa using h
    obtain ⟨v, l1', h1, h2, h3⟩ := SgL.get hr h
    exact ⟨v, l1', by simpa using h1, h2, fun a ha => List.mem_append_right _ (h3 a ha)⟩
/-- a slot is stored -/
theorem SgL.put {F H : Hp} {o' : Option Sl} {w : Option V} {l' : List Addr} (hs : match o' with | none => True | some s => ∃ v, w = some v ∧ s.P F H v l') (hd' : l'.Nodup) : ∀ {Γ : Ctx} {σ : L2.St} {l : List Addr} (i : Nat), SgL F H Γ σ l → l.Nodup → (∀ a ∈ l', a ∉ l) →
    ∃ l2, SgL F H (Γ.set i o') (σ.set i w) l2 ∧ l2.Nodup ∧ ∀ a ∈ l2, a ∈ l ∨ a ∈ l'
  | [], [], l, i, g, nd, _ => ⟨l, by simpa using g, nd, fun a ha => .inl ha⟩
  | [], _ :: _, _, _, g, _, _ => g.elim
  | _ :: _, [], _, _, g, _, _ => by cases ‹Option Sl› <;> exact g.elim
  | none :: Γ, o :: σ, l, 0, g, nd, dj => by
    cases o' with
    | none => exact ⟨l, g, nd, fun a ha => .inl ha⟩
    | some s =>
      obtain ⟨v, rfl, hs⟩ := hs
      exact ⟨l' ++ l, ⟨v, l', l, rfl, rfl, hs, g⟩, List.nodup_append.mpr ⟨hd', nd, fun a ha b hb e => dj a ha (e ▸ hb)⟩, fun a ha => (List.mem_append.mp ha).symm⟩
  | none :: Γ, o :: σ, l, i + 1, g, nd, dj => by
    obtain ⟨l2, h1, h2, h3⟩ := SgL.put hs hd' (Γ := Γ) (σ := σ) (l := l) i g nd dj
    exact ⟨l2, h1, h2, h3⟩
  | some s' :: Γ, o :: σ, l, 0, g, nd, dj => by
    obtain ⟨v, l1, l2, rfl, rfl, _, hr⟩ := g
    have nd2 := (List.nodup_append.mp nd).2.1
    cases o' with
    | none => exact ⟨l2, hr, nd2, fun a ha => .inl (List.mem_append_right _ ha)⟩
    | some s =>
      obtain ⟨v', rfl, hs⟩ := hs
      exact ⟨l' ++ l2, ⟨v', l', l2, rfl, rfl, hs, hr⟩, List.nodup_append.mpr ⟨hd', nd2, fun a ha b hb e => dj a ha (List.mem_append_right _ (e ▸ hb))⟩, fun a ha => by
        rcases List.mem_append.mp ha with q | q
        · exact .inr q
        · exact .inl (List.mem_append_right _ q)⟩
  | some s' :: Γ, o :: σ, l, i + 1, g, nd, dj => by
    obtain ⟨v, l1, l2, rfl, rfl, hv, hr⟩ := g
    obtain ⟨n1, n2, n3⟩ := List.nodup_append.mp nd
    obtain ⟨l3, h1, h2, h3⟩ := SgL.put hs hd' i hr n2 (fun a ha q => dj a ha (List.mem_append_right _ q))
    refine ⟨l1 ++ l3, ⟨v, l1, l3, rfl, rfl, hv, h1⟩, List.nodup_append.mpr ⟨n1, h2, fun a ha b hb e => ?_⟩, fun a ha => ?_⟩
    · subst e
      rcases h3 a hb with q | q
      · exact n3 a ha a q rfl
      · exact dj a q (List.mem_append_left _ ha)
    · rcases List.mem_append.mp ha with q | q
      · exact .inl (List.mem_append_left _ q)
      · rcases h3 a q with z | z
        · exact .inl (List.mem_append_right _ z)
        · exact .inr z
end Lg

namespace Lg
open PySem L2 Evl

theorem SgL.mod {F H : Hp} {s : Sl} : ∀ {Γ : Ctx} {σ : L2.St} {l : List Addr} {i : Nat}, SgL F H Γ σ l → l.Nodup → Γ[i]? = some (some s) → ∃ v l1, σ[i]? = some (some v) ∧ s.P F H v l1 ∧ (∀ a ∈ l1, a ∈ l) ∧
    ∀ (H' : Hp) (s' : Sl), (∀ a, a ∉ l1 → H' a = H a) → s'.P F H' v l1 → SgL F H' (Γ.set i (some s')) σ l
  | [], _, _, _, _, _, h => by simp at h
  | _ :: _, [], _, _, h, _, _ => by cases ‹Option Sl› <;> exact h.elim
  | none :: Γ, _ :: σ, l, 0, _, _, h => by simp at h
  | none :: Γ, _ :: σ, l, i + 1, g, nd, h => by
    have h : Γ[i]? = some (some s) := by simpa using h
    obtain ⟨v, l1, h1, h2, h3, h4⟩ := SgL.mod (Γ := Γ) (σ := σ) (l := l) (i := i) g nd h
    exact ⟨v, l1, by simpa using h1, h2, h3, h4⟩
  | some s' :: Γ, o :: σ, l, 0, g, nd, h => by
    obtain ⟨v, l1, l2, rfl, rfl, hs, hr⟩ := g
    have e : s' = s := by simpa using h
    subst e
    refine ⟨v, l1, rfl, hs, fun a ha => List.mem_append_left _ ha, fun H' s' k hs' => ⟨v, l1, l2, rfl, rfl, hs', SgL.m (Ex.refl F) (fun a ha => k a fun q => ?_) hr⟩⟩
    exact (List.nodup_append.mp nd).2.2 a q a ha rfl
  | some s' :: Γ, o :: σ, l, i + 1, g, nd, h => by
    obtain ⟨v, l1, l2, rfl, rfl, hs, hr⟩ := g
    have h : Γ[i]? = some (some s) := by simpa using h
    obtain ⟨n1, n2, n3⟩ := List.nodup_append.mp nd
    obtain ⟨v', l1', h1, h2, h3, h4⟩ := SgL.mod hr n2 h
    refine ⟨v', l1', by simpa using h1, h2, fun a ha => List.mem_append_right _ (h3 a ha), fun H' s'' k hs'' => ⟨v, l1, l2, rfl, rfl, ?_, h4 H' s'' k hs''⟩⟩
    exact s'.m (Ex.refl F) (fun a ha => k a fun q => n3 a ha a (h3 a q) rfl) hs
/-- a slot's own objects become data -/
theorem SgL.frz {F H : Hp} {s : Sl} : ∀ {Γ : Ctx} {σ : L2.St} {l : List Addr} {i : Nat}, SgL F H Γ σ l → l.Nodup → Γ[i]? = some (some s) → ∃ v l1, σ[i]? = some (some v) ∧ s.P F H v l1 ∧ (∀ a ∈ l1, a ∈ l) ∧
    ∀ (F' : Hp) (s' : Sl), Ex F F' → s'.P F' H v [] → ∃ l2, SgL F' H (Γ.set i (some s')) σ l2 ∧ l2.Nodup ∧ ∀ a ∈ l2, a ∈ l ∧ a ∉ l1
  | [], _, _, _, _, _, h => by simp at h
  | _ :: _, [], _, _, h, _, _ => by cases ‹Option Sl› <;> exact h.elim
  | none :: Γ, _ :: σ, l, 0, _, _, h => by simp at h
  | none :: Γ, _ :: σ, l, i + 1, g, nd, h => by
    have h : Γ[i]? = some (some s) := by simpa using h
    obtain ⟨v, l1, h1, h2, h3, h4⟩ := SgL.frz (Γ := Γ) (σ := σ) (l := l) (i := i) g nd h
    exact ⟨v, l1, by simpa using h1, h2, h3, h4⟩
  | some s1 :: Γ, o :: σ, l, 0, g, nd, h => by
    obtain ⟨v, l1, l2, rfl, rfl, hs, hr⟩ := g
    have e1 : s1 = s := by simpa using h
    subst e1
    obtain ⟨n1, n2, n3⟩ := List.nodup_append.mp nd
    exact ⟨v, l1, rfl, hs, fun a ha => List.mem_append_left _ ha, fun F' s' e q => ⟨l2, ⟨v, [], l2, rfl, rfl, q, SgL.m e (fun _ _ => rfl) hr⟩, n2, fun a ha => ⟨List.mem_append_right _ ha, fun q => n3 a q a ha rfl⟩⟩⟩
  | some s1 :: Γ, o :: σ, l, i + 1, g, nd, h => by
    obtain ⟨v, l1, l2, rfl, rfl, hs, hr⟩ := g
    have h : Γ[i]? = some (some s) := by simpa using h
    obtain ⟨n1, n2, n3⟩ := List.nodup_append.mp nd
    obtain ⟨v', m1, h1, h2, h3, h4⟩ := SgL.frz hr n2 h
    refine ⟨v', m1, by simpa using h1, h2, fun a ha => List.mem_append_right _ (h3 a ha), fun F' s' e q => ?_⟩
    obtain ⟨m2, q1, q2, q3⟩ := h4 F' s' e q
    refine ⟨l1 ++ m2, ⟨v, l1, m2, rfl, rfl, s1.m e (fun _ _ => rfl) hs, q1⟩, List.nodup_append.mpr ⟨n1, q2, fun a ha b hb z => n3 a ha b (q3 b hb).1 z⟩, fun a ha => ?_⟩
    rcases List.mem_append.mp ha with z | z
    · exact ⟨List.mem_append_left _ z, fun q => n3 a z a (h3 a q) rfl⟩
    · exact ⟨List.mem_append_right _ (q3 a z).1, (q3 a z).2⟩

/-! ### judgements by the weakest precondition itself -/
def wE (X : Cx) (e : Expr) : TE := fun σ H Q => ∀ pins s, Inv X pins σ H s → wpAny (model X.prog X.w) X.A (eval e X.env) (EP X pins σ Q) X.xe s
def wT (X : Cx) (e : Expr) : TT := fun σ H Q => ∀ pins s, Inv X pins σ H s → wpAny (model X.prog X.w) X.A (isTrue e X.env (eval e X.env)) (TP X pins σ Q) X.xe s
def wS (X : Cx) (st : List Stmt) : TS := fun D σ H => ∀ pins s, Inv X pins σ H s → wpAny (model X.prog X.w) X.A (execs st X.env) (SP X pins D) X.xe s
theorem pe_w {X : Cx} {e : Expr} : PE X e (wE X e) := ⟨fun pins s _ _ _ I h => h pins s I⟩
theorem pt_w {X : Cx} {e : Expr} : PT X e (wT X e) := ⟨fun pins s _ _ _ I h => h pins s I⟩
theorem pss_w {X : Cx} {st : List Stmt} : PSs X st (wS X st) := ⟨fun pins s _ _ _ I h => h pins s I⟩
theorem wE.of {X : Cx} {e : Expr} {t : TE} {σ : L2.St} {H : Hp} {Q : VK} (h : PE X e t) (q : t σ H Q) : wE X e σ H Q := fun pins s I => h.run pins s σ H Q I q
theorem wT.of {X : Cx} {e : Expr} {t : TT} {σ : L2.St} {H : Hp} {Q : Bool → Hp → Prop} (h : PT X e t) (q : t σ H Q) : wT X e σ H Q := fun pins s I => h.run pins s σ H Q I q
theorem wS.of {X : Cx} {st : List Stmt} {t : TS} {σ : L2.St} {H : Hp} {D : Ends} (h : PSs X st t) (q : t D σ H) : wS X st D σ H := fun pins s I => h.run pins s σ H D I q

/-- te gives a value as s tells it; whatever is tracked stays -/
def EvS (b : Bs) (Γ : Ctx) (te : TE) (s : Sl) : Prop := ∀ σ F H l, SgL F H Γ σ l → Gd b F H l → ∀ Q : VK, (∀ v F' H' l', Gw F H F' H' → s.P F' H' v l' → (∀ a ∈ l', H a = none ∧ F' a = none) → Q v H') → te σ H Q
def TvS (b : Bs) (Γ : Ctx) (tt : TT) (c : Bool) : Prop := ∀ σ F H l, SgL F H Γ σ l → Gd b F H l → ∀ Q : Bool → Hp → Prop, (∀ F' H', Gw F H F' H' → Q c H') → tt σ H Q
/-- data alone, in a row -/
structure Im where
  α : Type
  R : Rl α
  a : α
def Im.sl (x : Im) : Sl := im x.R x.a
def mk {α : Type} (R : Rl α) (a : α) : Im := ⟨α, R, a⟩
inductive Ims (F : Hp) : List V → List Im → Prop
  | nil : Ims F [] []
  | cons {v : V} {x : Im} {vs : List V} {xs : List Im} : x.R.r F v x.a → Ims F vs xs → Ims F (v :: vs) (x :: xs)
theorem Ims.m {F F' : Hp} (e : Ex F F') : ∀ {vs xs}, Ims F vs xs → Ims F' vs xs
  | _, _, .nil => .nil
  | _, _, .cons h t => .cons (Rl.m _ e h) (t.m e)
theorem Ims.len {F : Hp} : ∀ {vs xs}, Ims F vs xs → vs.length = xs.length
  | _, _, .nil => rfl
  | _, _, .cons _ t => by simp [t.len]
def AvS (b : Bs) (Γ : Ctx) (ta : TA) (xs : List Im) : Prop := ∀ σ F H l, SgL F H Γ σ l → Gd b F H l → ∀ Q : List V → Hp → Prop, (∀ vs F' H', Gw F H F' H' → Ims F' vs xs → Q vs H') → ta σ H Q
def EV (X : Cx) (b : Bs) (Γ : Ctx) (e : Expr) (s : Sl) : Prop := EvS b Γ (wE X e) s
def TV (X : Cx) (b : Bs) (Γ : Ctx) (e : Expr) (c : Bool) : Prop := TvS b Γ (wT X e) c
/-- arguments -/
def AV (X : Cx) (b : Bs) (Γ : Ctx) (es : List Expr) (xs : List Im) : Prop := ∃ ta, PA X es ta ∧ AvS b Γ ta xs
section
variable {X : Cx} {b : Bs} {Γ : Ctx} {e e1 e2 : Expr} {s s1 s2 : Sl} {te ta tb : TE} {α β γ : Type} {R : Rl α} {S : Rl β} {T : Rl γ} {x : α} {y : β} {z : γ} {r : R2} {pos : Pos} {c c1 c2 : Bool} {K : PySem.W.Frag}
theorem EV.of (h : PE X e te) (k : EvS b Γ te s) : EV X b Γ e s := fun σ F H l g d Q q => wE.of h (k σ F H l g d Q q)
theorem TV.of {tt : TT} (h : PT X e tt) (k : TvS b Γ tt c) : TV X b Γ e c := fun σ F H l g d Q q => wT.of h (k σ F H l g d Q q)
theorem TV.cast (h : TV X b Γ e c1) (q : c1 = c2) : TV X b Γ e c2 := q ▸ h
theorem EV.cast {x' : α} (h : EV X b Γ e (im R x)) (q : x = x') : EV X b Γ e (im R x') := q ▸ h
theorem EV.to (h : EV X b Γ e (im R x)) (k : ∀ F v, R.r F v x → S.r F v y) : EV X b Γ e (im S y) := fun σ F H l g d Q q => h σ F H l g d Q fun v F' H' l' w p f => q v F' H' l' w ⟨p.1, k F' v p.2⟩ f
/-- an operation upon two values -/
theorem EvS.op2 (ha : EvS b Γ ta (im R x)) (hb : EvS b Γ tb (im S y)) (hr : ∀ F H v w, Ex F H → R.r F v x → S.r F w y → ∀ Q : VK, (∀ u F' H' l', Gw F H F' H' → s.P F' H' u l' → (∀ a ∈ l', H a = none ∧ F' a = none) → Q u H') → r v w H Q) : EvS b Γ (tOp r ta tb) s := fun σ F H l g d Q q =>
  ha σ F H l g d _ fun v F1 H1 l1 w1 p1 _ => hb σ F1 H1 l (g.grow w1) (d.grow g.t w1) _ fun u F2 H2 l2 w2 p2 _ =>
    hr F2 H2 v u w2.e (R.m w2.f p1.2) p2.2 Q fun z F3 H3 l3 w3 p3 f3 => q z F3 H3 l3 ((w1.trans w2).trans w3) p3 fun a ha => ⟨ex_none (w1.trans w2).h (f3 a ha).1, (f3 a ha).2⟩
/-- .. that makes nothing -/
theorem EvS.op2i (ha : EvS b Γ ta (im R x)) (hb : EvS b Γ tb (im S y)) (hr : ∀ F H v w, Ex F H → R.r F v x → S.r F w y → ∀ Q : VK, (∀ u, T.r F u z → Q u H) → r v w H Q) : EvS b Γ (tOp r ta tb) (im T z) :=
  EvS.op2 ha hb fun F H v w e h1 h2 Q q => hr F H v w e h1 h2 Q fun u hu => q u F H [] (Gw.refl e) ⟨rfl, hu⟩ fun _ h => nomatch h
theorem EvS.un {r : V → Hp → VK → Prop} (ha : EvS b Γ ta (im R x)) (hr : ∀ F H v, Ex F H → R.r F v x → ∀ Q : VK, (∀ u, T.r F u z → Q u H) → r v H Q) : EvS b Γ (tUn r ta) (im T z) := fun σ F H l g d Q q =>
  ha σ F H l g d _ fun v F1 H1 l1 w1 p1 _ => hr F1 H1 v w1.e p1.2 Q fun u hu => q u F1 H1 [] w1 ⟨rfl, hu⟩ fun _ h => nomatch h
theorem AV.nil : AV X b Γ [] [] := ⟨_, pa_nil, fun σ F H l g d Q q => q [] F H (Gw.refl d.e) .nil⟩
theorem AV.cons {es : List Expr} {xs : List Im} (h : EV X b Γ e (im R x)) (k : AV X b Γ es xs) (hs : starEach (e :: es) X.env = (false, eval e X.env) :: starEach es X.env := by rfl) : AV X b Γ (e :: es) (mk R x :: xs) := by
  obtain ⟨ta, h1, h2⟩ := k
  refine ⟨_, pa_cons pe_w h1 hs, fun σ F H l g d Q q => ?_⟩
  refine h σ F H l g d _ fun v F1 H1 l1 w1 p1 _ => ?_
  refine h2 σ F1 H1 l (g.grow w1) (d.grow g.t w1) _ fun vs F2 H2 w2 p2 => ?_
  exact q (v :: vs) F2 H2 (w1.trans w2) (.cons (R.m w2.f p1.2) p2)
end
end Lg

namespace Lg
open PySem L2 Evl
section
variable {X : Cx} {b : Bs} {Γ Γ' : Ctx} {e e1 e2 e3 : Expr} {s s1 s2 : Sl} {te ta tb : TE} {α β γ : Type} {R : Rl α} {S : Rl β} {T : Rl γ} {x : α} {y : β} {z : γ} {r : R2} {pos : Pos} {c c1 c2 c3 : Bool} {i j k : Int} {as : List α}
theorem no_l {l' : List Addr} {p : Addr → Prop} (h : l' = []) : ∀ a ∈ l', p a := fun a ha => by rw [h] at ha; cases ha
theorem EvS.mki (h : ∀ σ F H l, SgL F H Γ σ l → Gd b F H l → ∀ Q : VK, (∀ v F' H', Gw F H F' H' → R.r F' v x → Q v H') → te σ H Q) : EvS b Γ te (im R x) := fun σ F H l g d Q q => h σ F H l g d Q fun v F' H' w p => q v F' H' [] w ⟨rfl, p⟩ fun _ h => nomatch h
/-! names and constants -/
theorem EV.var {n : Str} (i : Nat) (h : Γ[i]? = some (some (im R x)) := by rfl) (hN : X.N[i]? = some n := by rfl) (hv : Vis X.env.scope n := by first | exact Or.inl rfl | exact Or.inr (Or.inl rfl) | exact Or.inr (Or.inr rfl)) (hd : (n == ("__debug__" : Str)) = false := by decide)
    (hcd : (n == ("__classdict__" : Str)) = false := by decide) : EV X b Γ (.Name n pos) (im R x) := EV.of (pe_var hN hv hd hcd) (EvS.mki fun σ F H l g d Q q => by
  obtain ⟨v, l1, h1, h2, _⟩ := g.get h
  exact ⟨v, h1, q v F H (Gw.refl d.e) h2.2⟩)
theorem EV.int {j : Nat} : EV X b Γ (.Constant (.int i) j pos) (im rI i) := EV.of pe_int (EvS.mki fun σ F H l g d Q q => q _ F H (Gw.refl d.e) rfl)
theorem EV.bl {j : Nat} : EV X b Γ (.Constant (.bool c) j pos) (im rB c) := EV.of pe_bl (EvS.mki fun σ F H l g d Q q => q _ F H (Gw.refl d.e) rfl)
theorem EV.str {z : Str} {j : Nat} : EV X b Γ (.Constant (.str z) j pos) (im rS z) := EV.of pe_str (EvS.mki fun σ F H l g d Q q => q _ F H (Gw.refl d.e) rfl)
theorem EV.non {j : Nat} : EV X b Γ (.Constant .none j pos) (im rU ()) := EV.of pe_non (EvS.mki fun σ F H l g d Q q => q _ F H (Gw.refl d.e) rfl)
theorem TvS.test (h : EvS b Γ te (im rB c)) : TvS b Γ (tTest te) c := fun σ F H l g d Q q => h σ F H l g d _ fun v F1 H1 l1 w p _ => ⟨c, p.2, q F1 H1 w⟩
theorem TvS.testB (h : EvS b Γ te (im rB c)) : TvS b Γ (tB te) c := fun σ F H l g d Q q => h σ F H l g d _ fun v F1 H1 l1 w p _ => ⟨c, p.2, q F1 H1 w⟩
/-! numbers -/
theorem EvS.ii {g : Int → Int → V} (ha : EvS b Γ ta (im rI i)) (hb : EvS b Γ tb (im rI j)) (hz : ∀ F, T.r F (g i j) z) : EvS b Γ (tOp (rI0 g) ta tb) (im T z) :=
  EvS.op2i ha hb fun F H v w _ h1 h2 Q q => ⟨i, j, h1, h2, q _ (hz F)⟩
theorem EvS.iic {C : Int → Int → Prop} {g : Int → Int → V} (ha : EvS b Γ ta (im rI i)) (hb : EvS b Γ tb (im rI j)) (hc : C i j) (hz : ∀ F, T.r F (g i j) z) : EvS b Γ (tOp (L2.rI C g) ta tb) (im T z) :=
  EvS.op2i ha hb fun F H v w _ h1 h2 Q q => ⟨i, j, h1, h2, hc, q _ (hz F)⟩
theorem EV.add (ha : EV X b Γ e1 (im rI i)) (hb : EV X b Γ e2 (im rI j)) : EV X b Γ (.BinOp e1 .Add e2 pos) (im rI (i + j)) := EV.of (pe_op op_add pe_w pe_w) (EvS.ii (T := rI) (z := (i + j)) ha hb fun _ => rfl)
theorem EV.sub (ha : EV X b Γ e1 (im rI i)) (hb : EV X b Γ e2 (im rI j)) : EV X b Γ (.BinOp e1 .Sub e2 pos) (im rI (i - j)) := EV.of (pe_op op_sub pe_w pe_w) (EvS.ii (T := rI) (z := (i - j)) ha hb fun _ => rfl)
theorem EV.mul (ha : EV X b Γ e1 (im rI i)) (hb : EV X b Γ e2 (im rI j)) (hc : CMul i j) : EV X b Γ (.BinOp e1 .Mult e2 pos) (im rI (i * j)) := EV.of (pe_op op_mul pe_w pe_w) (EvS.iic (T := rI) (z := (i * j)) ha hb hc fun _ => rfl)
theorem EV.fdiv (ha : EV X b Γ e1 (im rI i)) (hb : EV X b Γ e2 (im rI j)) (hc : CDiv i j) : EV X b Γ (.BinOp e1 .FloorDiv e2 pos) (im rI (i / j)) := EV.of (pe_op op_fdiv pe_w pe_w) (EvS.iic (T := rI) (z := (i / j)) ha hb hc fun _ => rfl)
theorem EV.mod (ha : EV X b Γ e1 (im rI i)) (hb : EV X b Γ e2 (im rI j)) (hc : 0 < j) : EV X b Γ (.BinOp e1 .Mod e2 pos) (im rI (i % j)) := EV.of (pe_op op_mod pe_w pe_w) (EvS.iic (T := rI) (z := (i % j)) ha hb hc fun _ => rfl)
theorem EV.shr (ha : EV X b Γ e1 (im rI i)) (hb : EV X b Γ e2 (im rI j)) (hc : 0 ≤ j) : EV X b Γ (.BinOp e1 .RShift e2 pos) (im rI (i / 2 ^ j.toNat)) := EV.of (pe_op op_shr pe_w pe_w) (EvS.iic (T := rI) (z := (i / 2 ^ j.toNat)) ha hb hc fun _ => rfl)
theorem EV.band (ha : EV X b Γ e1 (im rI i)) (hb : EV X b Γ e2 (im rI j)) : EV X b Γ (.BinOp e1 .BitAnd e2 pos) (im rI (Builtin.bitAnd i j)) := EV.of (pe_op op_and pe_w pe_w) (EvS.ii (T := rI) (z := (Builtin.bitAnd i j)) ha hb fun _ => rfl)
theorem EV.neg (ha : EV X b Γ e1 (im rI i)) : EV X b Γ (.UnaryOp .USub e1 pos) (im rI (-i)) := EV.of (pe_un un_neg pe_w) (EvS.un ha fun F H v _ h Q q => ⟨i, h, q _ rfl⟩)
/-! comparisons, as values -/
theorem EV.lt (ha : EV X b Γ e1 (im rI i)) (hb : EV X b Γ e2 (im rI j)) : EV X b Γ (.Compare e1 [.Lt] [e2] pos) (im rB (decide (i < j))) := EV.of (pe_cmpR op_lt pe_w pe_w (nomark _)) (EvS.ii (T := rB) (z := (decide (i < j))) ha hb fun _ => rfl)
theorem TV.lt (ha : EV X b Γ e1 (im rI i)) (hb : EV X b Γ e2 (im rI j)) : TV X b Γ (.Compare e1 [.Lt] [e2] pos) (decide (i < j)) := TV.of (pt_cmpR op_lt pe_w pe_w (nomark _)) (TvS.test (EvS.ii (T := rB) (z := (decide (i < j))) ha hb fun _ => rfl))
theorem EV.le (ha : EV X b Γ e1 (im rI i)) (hb : EV X b Γ e2 (im rI j)) : EV X b Γ (.Compare e1 [.LtE] [e2] pos) (im rB (decide (i ≤ j))) := EV.of (pe_cmpR op_le pe_w pe_w (nomark _)) (EvS.ii (T := rB) (z := (decide (i ≤ j))) ha hb fun _ => rfl)
theorem TV.le (ha : EV X b Γ e1 (im rI i)) (hb : EV X b Γ e2 (im rI j)) : TV X b Γ (.Compare e1 [.LtE] [e2] pos) (decide (i ≤ j)) := TV.of (pt_cmpR op_le pe_w pe_w (nomark _)) (TvS.test (EvS.ii (T := rB) (z := (decide (i ≤ j))) ha hb fun _ => rfl))
theorem EV.gt (ha : EV X b Γ e1 (im rI i)) (hb : EV X b Γ e2 (im rI j)) : EV X b Γ (.Compare e1 [.Gt] [e2] pos) (im rB (decide (j < i))) := EV.of (pe_cmpR op_gt pe_w pe_w (nomark _)) (EvS.ii (T := rB) (z := (decide (j < i))) ha hb fun _ => rfl)
theorem TV.gt (ha : EV X b Γ e1 (im rI i)) (hb : EV X b Γ e2 (im rI j)) : TV X b Γ (.Compare e1 [.Gt] [e2] pos) (decide (j < i)) := TV.of (pt_cmpR op_gt pe_w pe_w (nomark _)) (TvS.test (EvS.ii (T := rB) (z := (decide (j < i))) ha hb fun _ => rfl))
theorem EV.ge (ha : EV X b Γ e1 (im rI i)) (hb : EV X b Γ e2 (im rI j)) : EV X b Γ (.Compare e1 [.GtE] [e2] pos) (im rB (decide (j ≤ i))) := EV.of (pe_cmpR op_ge pe_w pe_w (nomark _)) (EvS.ii (T := rB) (z := (decide (j ≤ i))) ha hb fun _ => rfl)
theorem TV.ge (ha : EV X b Γ e1 (im rI i)) (hb : EV X b Γ e2 (im rI j)) : TV X b Γ (.Compare e1 [.GtE] [e2] pos) (decide (j ≤ i)) := TV.of (pt_cmpR op_ge pe_w pe_w (nomark _)) (TvS.test (EvS.ii (T := rB) (z := (decide (j ≤ i))) ha hb fun _ => rfl))
/-- == of flat values -/
theorem EV.eqv {v w : V} (ha : EV X b Γ e1 (im R x)) (hb : EV X b Γ e2 (im S y)) (hv : ∀ F u, R.r F u x → u = v) (hw : ∀ F u, S.r F u y → u = w) (hs : scal v w = true) : EV X b Γ (.Compare e1 [.Eq] [e2] pos) (im rB (decide (v = w))) :=
  EV.of (pe_cmpR op_eq pe_w pe_w (nomark _)) (EvS.op2i ha hb fun F H v' w' _ h1 h2 Q q => by rw [hv F _ h1, hw F _ h2]; exact ⟨hs, q _ rfl⟩)
theorem TV.eqv {v w : V} (ha : EV X b Γ e1 (im R x)) (hb : EV X b Γ e2 (im S y)) (hv : ∀ F u, R.r F u x → u = v) (hw : ∀ F u, S.r F u y → u = w) (hs : scal v w = true) : TV X b Γ (.Compare e1 [.Eq] [e2] pos) (decide (v = w)) :=
  TV.of (pt_cmpR op_eq pe_w pe_w (nomark _)) (TvS.test (EvS.op2i ha hb fun F H v' w' _ h1 h2 Q q => by rw [hv F _ h1, hw F _ h2]; exact ⟨hs, q _ rfl⟩))
theorem EV.nev {v w : V} (ha : EV X b Γ e1 (im R x)) (hb : EV X b Γ e2 (im S y)) (hv : ∀ F u, R.r F u x → u = v) (hw : ∀ F u, S.r F u y → u = w) (hs : scal v w = true) : EV X b Γ (.Compare e1 [.NotEq] [e2] pos) (im rB (!decide (v = w))) :=
  EV.of (pe_cmpR op_ne pe_w pe_w (nomark _)) (EvS.op2i ha hb fun F H v' w' _ h1 h2 Q q => by rw [hv F _ h1, hw F _ h2]; exact ⟨hs, q _ rfl⟩)
theorem TV.nev {v w : V} (ha : EV X b Γ e1 (im R x)) (hb : EV X b Γ e2 (im S y)) (hv : ∀ F u, R.r F u x → u = v) (hw : ∀ F u, S.r F u y → u = w) (hs : scal v w = true) : TV X b Γ (.Compare e1 [.NotEq] [e2] pos) (!decide (v = w)) :=
  TV.of (pt_cmpR op_ne pe_w pe_w (nomark _)) (TvS.test (EvS.op2i ha hb fun F H v' w' _ h1 h2 Q q => by rw [hv F _ h1, hw F _ h2]; exact ⟨hs, q _ rfl⟩))
theorem EV.eqI (ha : EV X b Γ e1 (im rI i)) (hb : EV X b Γ e2 (im rI j)) : EV X b Γ (.Compare e1 [.Eq] [e2] pos) (im rB (decide (i = j))) := (EV.eqv ha hb (v := .int i) (w := .int j) (fun _ _ h => h) (fun _ _ h => h) rfl).cast (by simp)
theorem EV.neI (ha : EV X b Γ e1 (im rI i)) (hb : EV X b Γ e2 (im rI j)) : EV X b Γ (.Compare e1 [.NotEq] [e2] pos) (im rB (!decide (i = j))) := (EV.nev ha hb (v := .int i) (w := .int j) (fun _ _ h => h) (fun _ _ h => h) rfl).cast (by simp)
theorem TV.eqI (ha : EV X b Γ e1 (im rI i)) (hb : EV X b Γ e2 (im rI j)) : TV X b Γ (.Compare e1 [.Eq] [e2] pos) (decide (i = j)) := (TV.eqv ha hb (v := .int i) (w := .int j) (fun _ _ h => h) (fun _ _ h => h) rfl).cast (by simp)
theorem TV.neI (ha : EV X b Γ e1 (im rI i)) (hb : EV X b Γ e2 (im rI j)) : TV X b Γ (.Compare e1 [.NotEq] [e2] pos) (!decide (i = j)) := (TV.nev ha hb (v := .int i) (w := .int j) (fun _ _ h => h) (fun _ _ h => h) rfl).cast (by simp)
/-! tests -/
theorem TV.val (h : EV X b Γ e (im rB c)) (he : ∀ whole, isTrue e X.env whole = (do let v ← whole; standAt e.pos; holding [v] (truthy v)) := by intro _; rfl) : TV X b Γ e c := TV.of (pt_val pe_w he) fun σ F H l g d Q q =>
  h σ F H l g d _ fun v F1 H1 l1 w p _ => ⟨c, p.2, q F1 H1 w⟩
theorem TvS.seq {tt tu : TT} {f : Bool → Bool} (h1 : TvS b Γ tt c1) (h2 : f c1 = true → TvS b Γ tu c2) : ∀ σ F H l, SgL F H Γ σ l → Gd b F H l → ∀ Q : Bool → Hp → Prop, (∀ F' H', Gw F H F' H' → Q (if f c1 = true then c2 else c1) H') → tt σ H fun c H1 => if f c = true then tu σ H1 Q else Q c H1 := fun σ F H l g d Q q =>
  h1 σ F H l g d _ fun F1 H1 w => by
    by_cases hf : f c1 = true
    · rw [if_pos hf]
      exact h2 hf σ F1 H1 l (g.grow w) (d.grow g.t w) Q fun F2 H2 w2 => by
        have := q F2 H2 (w.trans w2)
        rw [if_pos hf] at this
        exact this
    · rw [if_neg hf]
      have := q F1 H1 w
      rw [if_neg hf] at this
      exact this
theorem TvS.and {tt tu : TT} (h1 : TvS b Γ tt c1) (h2 : c1 = true → TvS b Γ tu c2) : TvS b Γ (tAnd tt tu) (c1 && c2) := fun σ F H l g d Q q =>
  h1 σ F H l g d _ fun F1 H1 w => by
    cases c1 with
    | true => exact h2 rfl σ F1 H1 l (g.grow w) (d.grow g.t w) Q fun F2 H2 w2 => q F2 H2 (w.trans w2)
    | false => exact q F1 H1 w
theorem TvS.or {tt tu : TT} (h1 : TvS b Γ tt c1) (h2 : c1 = false → TvS b Γ tu c2) : TvS b Γ (tOr tt tu) (c1 || c2) := fun σ F H l g d Q q =>
  h1 σ F H l g d _ fun F1 H1 w => by
    cases c1 with
    | true => exact q F1 H1 w
    | false => exact h2 rfl σ F1 H1 l (g.grow w) (d.grow g.t w) Q fun F2 H2 w2 => q F2 H2 (w.trans w2)
theorem TV.and (h1 : TV X b Γ e1 c1) (h2 : c1 = true → TV X b Γ e2 c2) : TV X b Γ (.BoolOp .And [e1, e2] pos) (c1 && c2) := TV.of (PW.pt (pw_and pt_w (pw_and1 pt_w))) (TvS.and h1 h2)
theorem TV.or (h1 : TV X b Γ e1 c1) (h2 : c1 = false → TV X b Γ e2 c2) : TV X b Γ (.BoolOp .Or [e1, e2] pos) (c1 || c2) := TV.of (PW.pt (pw_or pt_w (pw_or1 pt_w))) (TvS.or h1 h2)
theorem TV.and3 (h1 : TV X b Γ e1 c1) (h2 : c1 = true → TV X b Γ e2 c2) (h3 : c1 = true → c2 = true → TV X b Γ e3 c3) : TV X b Γ (.BoolOp .And [e1, e2, e3] pos) (c1 && (c2 && c3)) := TV.of (PW.pt (pw_and pt_w (pw_and pt_w (pw_and1 pt_w)))) (TvS.and h1 fun q => TvS.and (h2 q) (h3 q))
theorem TV.or3 (h1 : TV X b Γ e1 c1) (h2 : c1 = false → TV X b Γ e2 c2) (h3 : c1 = false → c2 = false → TV X b Γ e3 c3) : TV X b Γ (.BoolOp .Or [e1, e2, e3] pos) (c1 || (c2 || c3)) := TV.of (PW.pt (pw_or pt_w (pw_or pt_w (pw_or1 pt_w)))) (TvS.or h1 fun q => TvS.or (h2 q) (h3 q))
theorem TV.not (h1 : TV X b Γ e1 c1) : TV X b Γ (.UnaryOp .Not e1 pos) (!c1) := TV.of (pt_not pt_w) fun σ F H l g d Q q => h1 σ F H l g d _ fun F1 H1 w => q F1 H1 w
/-- a chain of two -/
theorem EvS.chain {r r' : R2} {tc : TE} (ha : EvS b Γ ta (im R x)) (hb : EvS b Γ tb (im S y)) (hc : c1 = true → EvS b Γ tc (im T z)) (h1 : ∀ F H v w, R.r F v x → S.r F w y → ∀ Q : VK, Q (.bl c1) H → r v w H Q)
    (h2 : ∀ F H v w, S.r F v y → T.r F w z → ∀ Q : VK, Q (.bl c2) H → r' v w H Q) : ∀ σ F H l, SgL F H Γ σ l → Gd b F H l → ∀ Q : VK, (∀ F' H', Gw F H F' H' → Q (.bl (c1 && c2)) H') → tChain r r' ta tb tc σ H Q := fun σ F H l g d Q q =>
  ha σ F H l g d _ fun v F1 H1 l1 w1 p1 _ => hb σ F1 H1 l (g.grow w1) (d.grow g.t w1) _ fun u F2 H2 l2 w2 p2 _ => h1 F2 H2 v u (R.m w2.f p1.2) p2.2 _ ⟨c1, rfl, by
    have w12 := w1.trans w2
    cases c1 with
    | true => exact hc rfl σ F2 H2 l (g.grow w12) (d.grow g.t w12) _ fun t F3 H3 l3 w3 p3 _ => h2 F3 H3 u t (S.m w3.f p2.2) p3.2 Q (q F3 H3 (w12.trans w3))
    | false => exact q F2 H2 w12⟩
theorem rIlt {F H : Hp} {v w : V} {Q : VK} {p : Int → Int → Bool} (h1 : rI.r F v i) (h2 : rI.r F w j) (q : Q (.bl (p i j)) H) : rI0 (fun i j => .bl (p i j)) v w H Q := ⟨i, j, h1, h2, q⟩
theorem EV.leLt (ha : EV X b Γ e1 (im rI i)) (hb : EV X b Γ e2 (im rI j)) (hc : EV X b Γ e3 (im rI k)) (hm : lastMarks [.LtE, .Lt] [e2, e3] = false := by rfl) : EV X b Γ (.Compare e1 [.LtE, .Lt] [e2, e3] pos) (im rB (decide (i ≤ j) && decide (j < k))) :=
  EV.of (pe_chain op_le op_lt pe_w pe_w pe_w (hm := hm)) (EvS.mki fun σ F H l g d Q q => EvS.chain (r := rI0 fun i j => .bl (decide (i ≤ j))) (r' := rI0 fun i j => .bl (decide (i < j))) ha hb (fun _ => hc) (fun F H v w h1 h2 Q q => rIlt (p := fun i j => decide (i ≤ j)) h1 h2 q) (fun F H v w h1 h2 Q q => rIlt (p := fun i j => decide (i < j)) h1 h2 q) σ F H l g d Q fun F' H' w => q _ F' H' w rfl)
theorem EV.leLe (ha : EV X b Γ e1 (im rI i)) (hb : EV X b Γ e2 (im rI j)) (hc : EV X b Γ e3 (im rI k)) (hm : lastMarks [.LtE, .LtE] [e2, e3] = false := by rfl) : EV X b Γ (.Compare e1 [.LtE, .LtE] [e2, e3] pos) (im rB (decide (i ≤ j) && decide (j ≤ k))) :=
  EV.of (pe_chain op_le op_le pe_w pe_w pe_w (hm := hm)) (EvS.mki fun σ F H l g d Q q => EvS.chain (r := rI0 fun i j => .bl (decide (i ≤ j))) (r' := rI0 fun i j => .bl (decide (i ≤ j))) ha hb (fun _ => hc) (fun F H v w h1 h2 Q q => rIlt (p := fun i j => decide (i ≤ j)) h1 h2 q) (fun F H v w h1 h2 Q q => rIlt (p := fun i j => decide (i ≤ j)) h1 h2 q) σ F H l g d Q fun F' H' w => q _ F' H' w rfl)
theorem TV.leLt (ha : EV X b Γ e1 (im rI i)) (hb : EV X b Γ e2 (im rI j)) (hc : EV X b Γ e3 (im rI k)) (hm : lastMarks [.LtE, .Lt] [e2, e3] = false := by rfl) : TV X b Γ (.Compare e1 [.LtE, .Lt] [e2, e3] pos) (decide (i ≤ j) && decide (j < k)) :=
  TV.of (pt_chain op_le op_lt pe_w pe_w pe_w (hm := hm)) fun σ F H l g d Q q => EvS.chain (r := rI0 fun i j => .bl (decide (i ≤ j))) (r' := rI0 fun i j => .bl (decide (i < j))) ha hb (fun _ => hc) (fun F H v w h1 h2 Q q => rIlt (p := fun i j => decide (i ≤ j)) h1 h2 q) (fun F H v w h1 h2 Q q => rIlt (p := fun i j => decide (i < j)) h1 h2 q) σ F H l g d _ fun F' H' w => ⟨_, rfl, q F' H' w⟩
theorem TV.leLe (ha : EV X b Γ e1 (im rI i)) (hb : EV X b Γ e2 (im rI j)) (hc : EV X b Γ e3 (im rI k)) (hm : lastMarks [.LtE, .LtE] [e2, e3] = false := by rfl) : TV X b Γ (.Compare e1 [.LtE, .LtE] [e2, e3] pos) (decide (i ≤ j) && decide (j ≤ k)) :=
  TV.of (pt_chain op_le op_le pe_w pe_w pe_w (hm := hm)) fun σ F H l g d Q q => EvS.chain (r := rI0 fun i j => .bl (decide (i ≤ j))) (r' := rI0 fun i j => .bl (decide (i ≤ j))) ha hb (fun _ => hc) (fun F H v w h1 h2 Q q => rIlt (p := fun i j => decide (i ≤ j)) h1 h2 q) (fun F H v w h1 h2 Q q => rIlt (p := fun i j => decide (i ≤ j)) h1 h2 q) σ F H l g d _ fun F' H' w => ⟨_, rfl, q F' H' w⟩
theorem EV.ife (h : TV X b Γ e1 c) (h1 : c = true → EV X b Γ e2 (im R x)) (h2 : c = false → EV X b Γ e3 (im R x)) : EV X b Γ (.IfExp e1 e2 e3 pos) (im R x) := EV.of (pe_ifExp pt_w pe_w pe_w) fun σ F H l g d Q q =>
  h σ F H l g d _ fun F1 H1 w => by
    have go := fun v F' H' l' (w' : Gw F1 H1 F' H') p (f : ∀ a ∈ l', H1 a = none ∧ F' a = none) => q v F' H' l' (w.trans w') p fun a ha => ⟨ex_none w.h (f a ha).1, (f a ha).2⟩
    cases c with
    | true => exact h1 rfl σ F1 H1 l (g.grow w) (d.grow g.t w) Q go
    | false => exact h2 rfl σ F1 H1 l (g.grow w) (d.grow g.t w) Q go
/-- a and b, a or b, not a as values -/
theorem EV.andV (h1 : EV X b Γ e1 (im rB c1)) (h2 : c1 = true → EV X b Γ e2 (im rB c2)) : EV X b Γ (.BoolOp .And [e1, e2] pos) (im rB (c1 && c2)) := EV.of (pe_and pe_w (pe_one pe_w)) (EvS.mki fun σ F H l g d Q q =>
  h1 σ F H l g d _ fun v F1 H1 l1 w p _ => ⟨c1, p.2, by
    cases c1 with
    | true => exact h2 rfl σ F1 H1 l (g.grow w) (d.grow g.t w) _ fun v F2 H2 l2 w2 p2 _ => q v F2 H2 (w.trans w2) p2.2
    | false => exact q _ F1 H1 w rfl⟩)
theorem EV.orV (h1 : EV X b Γ e1 (im rB c1)) (h2 : c1 = false → EV X b Γ e2 (im rB c2)) : EV X b Γ (.BoolOp .Or [e1, e2] pos) (im rB (c1 || c2)) := EV.of (pe_or pe_w (pe_one pe_w)) (EvS.mki fun σ F H l g d Q q =>
  h1 σ F H l g d _ fun v F1 H1 l1 w p _ => ⟨c1, p.2, by
    cases c1 with
    | true => exact q _ F1 H1 w rfl
    | false => exact h2 rfl σ F1 H1 l (g.grow w) (d.grow g.t w) _ fun v F2 H2 l2 w2 p2 _ => q v F2 H2 (w.trans w2) p2.2⟩)
theorem EV.notV (h1 : EV X b Γ e1 (im rB c1)) : EV X b Γ (.UnaryOp .Not e1 pos) (im rB (!c1)) := EV.of (pe_not pe_w) (EvS.mki fun σ F H l g d Q q =>
  h1 σ F H l g d _ fun v F1 H1 l1 w p _ => ⟨c1, p.2, q _ F1 H1 w rfl⟩)
/-! displays -/
theorem Ims.all {F : Hp} : ∀ {vs : List V} {as : List α}, Ims F vs (as.map (mk R)) → All2 (R.r F) vs as
  | _, [], h => by cases h; exact .nil
  | _, a :: as, h => by
    cases h with
    | cons h1 h2 => exact .cons h1 (Ims.all h2)
theorem EV.tup {es : List Expr} {xs : List Im} {k : Nat} (h : AV X b Γ es xs) (hx : xs = as.map (mk R)) (hl : as.length ≤ 1000) : EV X b Γ (.Tuple es k pos) (im (rT R) as) := by
  obtain ⟨ta, h1, h2⟩ := h
  refine EV.of (pe_tup h1) (EvS.mki fun σ F H l g d Q q => h2 σ F H l g d _ fun vs F1 H1 w p => ?_)
  rw [hx] at p
  have p := Ims.all p
  exact ⟨Nat.le_of_lt (small1000 (by rw [p.len]; exact hl)), fun a ha => q _ _ _ (w.trans (Gw.new w.e ha)) ⟨a, vs, rfl, upd_same, p.imp fun _ _ => R.m (Ex.new (ex_none w.e ha))⟩⟩
theorem EV.pair {es : List Expr} {k : Nat} (h : AV X b Γ es [mk R x, mk S y]) : EV X b Γ (.Tuple es k pos) (im (rP R S) (x, y)) := by
  obtain ⟨ta, k1, k2⟩ := h
  refine EV.of (pe_tup k1) (EvS.mki fun σ F H l g d Q q => k2 σ F H l g d _ fun vs F1 H1 w p => ?_)
  cases p with
  | cons p1 p =>
    cases p with
    | cons p2 p =>
      cases p
      exact ⟨Nat.le_of_lt (small1000 (show 2 ≤ 1000 by decide)), fun a ha => q _ _ _ (w.trans (Gw.new w.e ha)) ⟨a, _, _, rfl, upd_same, R.m (Ex.new (ex_none w.e ha)) p1, S.m (Ex.new (ex_none w.e ha)) p2⟩⟩
theorem EV.tri {es : List Expr} {k : Nat} (h : AV X b Γ es [mk R x, mk S y, mk T z]) : EV X b Γ (.Tuple es k pos) (im (rP3 R S T) (x, y, z)) := by
  obtain ⟨ta, k1, k2⟩ := h
  refine EV.of (pe_tup k1) (EvS.mki fun σ F H l g d Q q => k2 σ F H l g d _ fun vs F1 H1 w p => ?_)
  cases p with
  | cons p1 p =>
    cases p with
    | cons p2 p =>
      cases p with
      | cons p3 p =>
        cases p
        exact ⟨Nat.le_of_lt (small1000 (show 3 ≤ 1000 by decide)), fun a ha => q _ _ _ (w.trans (Gw.new w.e ha)) ⟨a, _, _, _, rfl, upd_same, R.m (Ex.new (ex_none w.e ha)) p1, S.m (Ex.new (ex_none w.e ha)) p2, T.m (Ex.new (ex_none w.e ha)) p3⟩⟩
theorem EV.lst {es : List Expr} {xs : List Im} (h : AV X b Γ es xs) (hx : xs = as.map (mk R)) (hl : as.length ≤ 1000) : EV X b Γ (.List es pos) (ow R as) := by
  obtain ⟨ta, h1, h2⟩ := h
  refine EV.of (pe_lst h1) fun σ F H l g d Q q => h2 σ F H l g d _ fun vs F1 H1 w p => ?_
  rw [hx] at p
  have p := Ims.all p
  exact ⟨Nat.le_of_lt (small1000 (by rw [p.len]; exact hl)), fun a ha => q _ _ _ [a] (w.trans (Gw.own w.e ha)) ⟨a, vs, rfl, rfl, upd_same, p⟩ fun c hc => by
    rw [List.mem_singleton.mp hc]; exact ⟨ex_none w.h ha, ex_none w.e ha⟩⟩
/-- one's own becomes data -/
theorem EV.fz (h : EV X b Γ e (ow R as)) : EV X b Γ e (im (rL R) as) := EvS.mki fun σ F H l g d Q q => h σ F H l g d Q fun v F' H' l' w ⟨p, xs, h1, h2, h3, h4⟩ f => by
  subst h1 h2
  obtain ⟨f1, f2⟩ := f p (List.mem_singleton.mpr rfl)
  refine q _ (upd F' p (.lst xs)) H' ⟨w.f.trans (Ex.new f2), w.h, fun a u ha => ?_, fun a h1 h2 => ?_⟩ ⟨p, xs, rfl, upd_same, h4.imp fun _ _ => R.m (Ex.new f2)⟩
  · by_cases z : a = p
    · subst z; rw [upd_same] at ha; rw [h3]; exact ha
    · rw [upd_ne z] at ha; exact w.e a u ha
  · rw [upd_ne (fun z => h2 (by rw [z]; exact f1))]; exact w.k a h1 h2
/-! reading lists, tuples -/
theorem atI_all {p : V → α → Prop} {xs : List V} {a : α} (h : All2 p xs as) (k : atI as i = some a) : ∃ v, atI xs i = some v ∧ p v a := by
  unfold atI at k ⊢
  rw [← h.len] at k
  cases e : ixN xs.length i with
  | none => rw [e] at k; cases k
  | some j =>
    rw [e] at k
    obtain ⟨v, h1, h2⟩ := h.get (i := j) k
    exact ⟨v, h1, h2⟩
theorem EV.ixL {a : α} (h : EV X b Γ e1 (im (rL R) as)) (hi : EV X b Γ e2 (im rI i)) (ha : atI as i = some a) (hs : PlainIx e2 := by exact (fun _ _ => rfl)) : EV X b Γ (.Subscript e1 e2 pos) (im R a) :=
  EV.of (pe_ix ix_list pe_w pe_w hs) (EvS.op2i h hi fun F H v w e ⟨p, xs, h1, h2, h3⟩ hw Q q => by
    obtain ⟨u, k1, k2⟩ := atI_all h3 ha
    exact ⟨p, xs, i, u, h1, hw, SqL.of (e p _ h2), k1, q u k2⟩)
theorem EV.ixT {a : α} (h : EV X b Γ e1 (im (rT R) as)) (hi : EV X b Γ e2 (im rI i)) (ha : atI as i = some a) (hs : PlainIx e2 := by exact (fun _ _ => rfl)) : EV X b Γ (.Subscript e1 e2 pos) (im R a) :=
  EV.of (pe_ix ix_tup pe_w pe_w hs) (EvS.op2i h hi fun F H v w e ⟨p, xs, h1, h2, h3⟩ hw Q q => by
    obtain ⟨u, k1, k2⟩ := atI_all h3 ha
    exact ⟨p, xs, i, u, h1, hw, SqT.of (e p _ h2), k1, q u k2⟩)
theorem EV.ixQ {a : α} {as : Bool × List α} (h : EV X b Γ e1 (im (rQ R) as)) (hi : EV X b Γ e2 (im rI i)) (ha : atI as.2 i = some a) (hs : PlainIx e2 := by exact (fun _ _ => rfl)) : EV X b Γ (.Subscript e1 e2 pos) (im R a) :=
  EV.of (pe_ix ix_seq pe_w pe_w hs) (EvS.op2i h hi fun F H v w e ⟨q1, q2⟩ hw Q q => by
    obtain ⟨t, as⟩ := as
    cases t with
    | true =>
      obtain ⟨p, xs, h1, h2, h3⟩ := q1 rfl
      obtain ⟨u, k1, k2⟩ := atI_all h3 ha
      exact .inr (.inl ⟨p, xs, i, u, h1, hw, SqT.of (e p _ h2), k1, q u k2⟩)
    | false =>
      obtain ⟨p, xs, h1, h2, h3⟩ := q2 rfl
      obtain ⟨u, k1, k2⟩ := atI_all h3 ha
      exact .inl ⟨p, xs, i, u, h1, hw, SqL.of (e p _ h2), k1, q u k2⟩)
theorem EV.ixSc {ns : List Int} {a : Int} (h : EV X b Γ e1 (im (rSc X.K) ns)) (hi : EV X b Γ e2 (im rI i)) (ha : atI ns i = some a) (hs : PlainIx e2 := by exact (fun _ _ => rfl)) : EV X b Γ (.Subscript e1 e2 pos) (im rI a) :=
  EV.of (pe_ix ix_list pe_w pe_w hs) (EvS.op2i h hi fun F H v w e ⟨p, h1, h2⟩ hw Q q => by
    have k : atI (ns.map V.int) i = some (.int a) := by
      unfold atI at ha ⊢
      rw [List.length_map]
      cases e : ixN ns.length i with
      | none => rw [e] at ha; cases ha
      | some j =>
        rw [e] at ha
        have ha : ns[j]? = some a := ha
        show (ns.map V.int)[j]? = _
        rw [List.getElem?_map, ha]; rfl
    exact ⟨p, _, i, _, h1, hw, ex_l e h2, k, q _ rfl⟩)
theorem EV.ixP0 {p2 : Pos} {k : Nat} (h : EV X b Γ e1 (im (rP R S) (x, y))) : EV X b Γ (.Subscript e1 (.Constant (.int 0) k p2) pos) (im R x) :=
  EV.of (pe_ix ix_tup pe_w pe_w (fun _ _ => rfl)) (EvS.op2i h (EV.int (i := 0)) fun F H v w e ⟨p, u1, u2, h1, h2, h3, h4⟩ hw Q q => ⟨p, _, 0, u1, h1, hw, SqT.of (e p _ h2), rfl, q u1 h3⟩)
theorem EV.ixP1 {p2 : Pos} {k : Nat} (h : EV X b Γ e1 (im (rP R S) (x, y))) : EV X b Γ (.Subscript e1 (.Constant (.int 1) k p2) pos) (im S y) :=
  EV.of (pe_ix ix_tup pe_w pe_w (fun _ _ => rfl)) (EvS.op2i h (EV.int (i := 1)) fun F H v w e ⟨p, u1, u2, h1, h2, h3, h4⟩ hw Q q => ⟨p, _, 1, u2, h1, hw, SqT.of (e p _ h2), rfl, q u2 h4⟩)
theorem EV.ixR0 {p2 : Pos} {k : Nat} (h : EV X b Γ e1 (im (rP3 R S T) (x, y, z))) : EV X b Γ (.Subscript e1 (.Constant (.int 0) k p2) pos) (im R x) :=
  EV.of (pe_ix ix_tup pe_w pe_w (fun _ _ => rfl)) (EvS.op2i h (EV.int (i := 0)) fun F H v w e ⟨p, u1, u2, u3, h1, h2, h3, h4, h5⟩ hw Q q => ⟨p, _, 0, u1, h1, hw, SqT.of (e p _ h2), rfl, q u1 h3⟩)
theorem EV.ixR1 {p2 : Pos} {k : Nat} (h : EV X b Γ e1 (im (rP3 R S T) (x, y, z))) : EV X b Γ (.Subscript e1 (.Constant (.int 1) k p2) pos) (im S y) :=
  EV.of (pe_ix ix_tup pe_w pe_w (fun _ _ => rfl)) (EvS.op2i h (EV.int (i := 1)) fun F H v w e ⟨p, u1, u2, u3, h1, h2, h3, h4, h5⟩ hw Q q => ⟨p, _, 1, u2, h1, hw, SqT.of (e p _ h2), rfl, q u2 h4⟩)
theorem EV.ixR2 {p2 : Pos} {k : Nat} (h : EV X b Γ e1 (im (rP3 R S T) (x, y, z))) : EV X b Γ (.Subscript e1 (.Constant (.int 2) k p2) pos) (im T z) :=
  EV.of (pe_ix ix_tup pe_w pe_w (fun _ _ => rfl)) (EvS.op2i h (EV.int (i := 2)) fun F H v w e ⟨p, u1, u2, u3, h1, h2, h3, h4, h5⟩ hw Q q => ⟨p, _, 2, u3, h1, hw, SqT.of (e p _ h2), rfl, q u3 h5⟩)
end
end Lg

namespace Lg
open PySem L2 Evl
structure EndC where
  nx : Ctx → Prop
  rt : Sl → Prop
  bk : Ctx → Prop := fun _ => False
  ct : Ctx → Prop := fun _ => False
def Sg (b : Bs) (Γ : Ctx) (σ : L2.St) (F H : Hp) : Prop := ∃ l, SgL F H Γ σ l ∧ Gd b F H l
def Rt (b : Bs) (P : Sl → Prop) (v : V) (H : Hp) : Prop := ∃ s F l, s.P F H v l ∧ Gd b F H l ∧ P s
def At (b : Bs) (P : Ctx → Prop) (σ : L2.St) (H : Hp) : Prop := ∃ Γ F, Sg b Γ σ F H ∧ P Γ
def EndC.ends (b : Bs) (C : EndC) : Ends := { nx := At b C.nx, rt := Rt b C.rt, bk := At b C.bk, ct := At b C.ct }
def HT (X : Cx) (b : Bs) (C : EndC) (Γ : Ctx) (sts : List Stmt) : Prop := ∀ σ F H, Sg b Γ σ F H → wS X sts (C.ends b) σ H
/-- some slots forgotten -/
inductive Le : Ctx → Ctx → Prop
  | nil : Le [] []
  | drop {o : Option Sl} {Γ Γ' : Ctx} : Le Γ Γ' → Le (o :: Γ) (none :: Γ')
  | keep {o : Option Sl} {Γ Γ' : Ctx} : Le Γ Γ' → Le (o :: Γ) (o :: Γ')
theorem Le.refl : ∀ Γ : Ctx, Le Γ Γ
  | [] => .nil
  | _ :: Γ => .keep (Le.refl Γ)
theorem SgL.le {F H : Hp} {Γ Γ' : Ctx} (h : Le Γ Γ') : ∀ {σ : L2.St} {l : List Addr}, SgL F H Γ σ l → ∃ l', SgL F H Γ' σ l' ∧ l'.Sublist l := by
  induction h with
  | nil => exact fun {σ l} g => ⟨l, g, List.Sublist.refl _⟩
  | @drop o Γ Γ' h ih =>
    intro σ l g
    cases σ with
    | nil => cases o <;> exact g.elim
    | cons w σ =>
      cases o with
      | none => exact ih (σ := σ) (l := l) g
      | some s =>
        obtain ⟨v, l1, l2, rfl, rfl, _, hr⟩ := g
        obtain ⟨l', h1, h2⟩ := ih hr
        exact ⟨l', h1, h2.trans (List.sublist_append_right _ _)⟩
  | @keep o Γ Γ' h ih =>
    intro σ l g
    cases σ with
    | nil => cases o <;> exact g.elim
    | cons w σ =>
      cases o with
      | none => exact ih (σ := σ) (l := l) g
      | some s =>
        obtain ⟨v, l1, l2, rfl, rfl, hs, hr⟩ := g
        obtain ⟨l', h1, h2⟩ := ih hr
        exact ⟨l1 ++ l', ⟨v, l1, l', rfl, rfl, hs, h1⟩, List.Sublist.append (List.Sublist.refl _) h2⟩
theorem Gd.sub {b : Bs} {F H : Hp} {l l' : List Addr} (d : Gd b F H l) (h : l'.Sublist l) : Gd b F H l' :=
  ⟨d.ef, d.eb, d.e, d.k, h.nodup d.nd, fun a ha => d.of a (h.mem ha), fun a ha => d.ob a (h.mem ha)⟩
theorem Gd.of_l {b : Bs} {F H : Hp} {l l' : List Addr} (d : Gd b F H l) (nd : l'.Nodup) (h : ∀ a ∈ l', F a = none ∧ b.B a = none) : Gd b F H l' :=
  ⟨d.ef, d.eb, d.e, d.k, nd, fun a ha => (h a ha).1, fun a ha => (h a ha).2⟩
theorem wS.mono {X : Cx} {sts : List Stmt} {D D' : Ends} {σ : L2.St} {H : Hp} (h : wS X sts D σ H) (n : ∀ σ H, D.nx σ H → D'.nx σ H) (r : ∀ v H, D.rt v H → D'.rt v H) (bk : ∀ σ H, D.bk σ H → D'.bk σ H) (ct : ∀ σ H, D.ct σ H → D'.ct σ H) : wS X sts D' σ H := fun pins s I =>
  thn (h pins s I) fun f s1 q => by
    cases f with
    | next => obtain ⟨σ', H', I', q⟩ := q; exact ⟨σ', H', I', n _ _ q⟩
    | brk => obtain ⟨σ', H', I', q⟩ := q; exact ⟨σ', H', I', bk _ _ q⟩
    | cont => obtain ⟨σ', H', I', q⟩ := q; exact ⟨σ', H', I', ct _ _ q⟩
    | ret u => obtain ⟨v, σ', H', I', rv, q⟩ := q; exact ⟨v, σ', H', I', rv, r _ _ q⟩
section
variable {X : Cx} {b : Bs} {C C' : EndC} {Γ Γ' Γ'' : Ctx} {e e1 e2 : Expr} {s : Sl} {α β : Type} {R : Rl α} {S : Rl β} {x : α} {y : β} {as : List α} {st : Stmt} {rest bd el : List Stmt} {t : TS} {pos pos' : Pos} {c : Bool} {i j : Nat} {n : Str}
theorem HT.step (h1 : PS X st t) (k : ∀ σ F H, Sg b Γ σ F H → t { C.ends b with nx := wS X rest (C.ends b) } σ H) : HT X b C Γ (st :: rest) := fun σ F H g => wS.of (pss_cons h1 pss_w) (k σ F H g)
theorem HT.nil (h : C.nx Γ) : HT X b C Γ [] := fun σ F H g => wS.of pss_nil ⟨Γ, F, g, h⟩
theorem HT.weak {sts : List Stmt} (h : Le Γ Γ') (k : HT X b C Γ' sts) : HT X b C Γ sts := fun σ F H ⟨l, g, d⟩ => by
  obtain ⟨l', g', h'⟩ := SgL.le h g
  exact k σ F H ⟨l', g', d.sub h'⟩
theorem HT.done (h : Le Γ Γ') (k : C.nx Γ') : HT X b C Γ [] := HT.weak h (HT.nil k)
theorem HT.mono {sts : List Stmt} (h : HT X b C Γ sts) (n : ∀ Γ, C.nx Γ → C'.nx Γ) (r : ∀ s, C.rt s → C'.rt s) (bk : ∀ Γ, C.bk Γ → C'.bk Γ) (ct : ∀ Γ, C.ct Γ → C'.ct Γ) : HT X b C' Γ sts := fun σ F H g =>
  wS.mono (h σ F H g) (fun _ _ ⟨Γ, F, g, p⟩ => ⟨Γ, F, g, n _ p⟩) (fun _ _ ⟨s, F, l, h1, h2, p⟩ => ⟨s, F, l, h1, h2, r _ p⟩) (fun _ _ ⟨Γ, F, g, p⟩ => ⟨Γ, F, g, bk _ p⟩) (fun _ _ ⟨Γ, F, g, p⟩ => ⟨Γ, F, g, ct _ p⟩)
/-- the ends of a block within, the rest behind -/
abbrev EndC.into (C : EndC) (X : Cx) (b : Bs) (rest : List Stmt) : EndC := { C with nx := fun Γ => HT X b C Γ rest }
theorem HT.into {X' : Cx} {σ : L2.St} {H : Hp} (h : wS X' bd ((C.into X b rest).ends b) σ H) : wS X' bd { C.ends b with nx := wS X rest (C.ends b) } σ H :=
  wS.mono h (fun σ H ⟨Γ, F, g, p⟩ => p σ F H g) (fun _ _ q => q) (fun _ _ q => q) (fun _ _ q => q)
/-- a value is stored -/
theorem Sg.put {σ : L2.St} {F H F' H' : Hp} {l l' : List Addr} {v : V} (i : Nat) (g : SgL F H Γ σ l) (d : Gd b F H l) (w : Gw F H F' H') (p : s.P F' H' v l') (f : ∀ a ∈ l', H a = none ∧ F' a = none) : Sg b (Γ.set i (some s)) (σ.set i (some v)) F' H' := by
  have d' := d.grow g.t w
  obtain ⟨l2, h1, h2, h3⟩ := SgL.put (o' := some s) (w := some v) (l' := l') ⟨v, rfl, p⟩ (s.d p) i (g.grow w) d.nd (fun a ha q => g.t a q (f a ha).1)
  exact ⟨l2, h1, d'.of_l h2 fun a ha => by
    rcases h3 a ha with q | q
    · exact ⟨d'.of a q, d'.ob a q⟩
    · exact ⟨(f a q).2, ex_none d.eb (f a q).1⟩⟩
theorem HT.set (i : Nat) (he : EV X b Γ e s) (k : HT X b C (Γ.set i (some s)) rest) (nd : X.N.Nodup) (hi : X.N[i]? = some n := by rfl) (hx : Loc X.env.scope n := by first | exact Or.inl rfl | exact Or.inr rfl) (hs : swapsWith e (some (.Name n pos')) pos.line X.env = pure false := by rfl)
    (hf : X.fn n = true ∨ X.env.scope.names.lookup n = some .local := by first | exact .inl rfl | exact .inr rfl | assumption) : HT X b C Γ (.Assign [.Name n pos'] e pos :: rest) :=
  HT.step (ps_set nd hi hx pe_w hs hf) fun σ F H ⟨l, g, d⟩ => he σ F H l g d _ fun v F' H' l' w p f => k _ _ _ (Sg.put i g d w p f)
theorem HT.ret (he : EV X b Γ e s) (k : C.rt s) : HT X b C Γ (.Return (some e) pos :: rest) :=
  HT.step (ps_ret pe_w) fun σ F H ⟨l, g, d⟩ => he σ F H l g d _ fun v F' H' l' w p f => ⟨s, F', l', p, (d.grow g.t w).of_l (s.d p) fun a ha => ⟨(f a ha).2, ex_none d.eb (f a ha).1⟩, k⟩
theorem HT.retN (k : C.rt (im rU ())) : HT X b C Γ (.Return none pos :: rest) := HT.step ps_retN fun σ F H ⟨l, g, d⟩ => ⟨im rU (), F, [], ⟨rfl, rfl⟩, d.of_l List.nodup_nil (fun _ h => nomatch h), k⟩
theorem HT.expr (he : EV X b Γ e s) (k : HT X b C Γ rest) (hs : swapsWith e none pos.line X.env = pure false := by rfl) : HT X b C Γ (.Expr e pos :: rest) :=
  HT.step (ps_expr pe_w hs) fun σ F H ⟨l, g, d⟩ => he σ F H l g d _ fun v F' H' l' w p f => k σ F' H' ⟨l, g.grow w, d.grow g.t w⟩
theorem HT.ite (h : TV X b Γ e c) (h1 : c = true → HT X b (C.into X b rest) Γ bd) (h2 : c = false → HT X b (C.into X b rest) Γ el) : HT X b C Γ (.If e bd el pos :: rest) :=
  HT.step (ps_if pt_w pss_w pss_w) fun σ F H ⟨l, g, d⟩ => h σ F H l g d _ fun F' H' w => by
    have g' : Sg b Γ σ F' H' := ⟨l, g.grow w, d.grow g.t w⟩
    cases c with
    | true => exact HT.into (h1 rfl σ F' H' g')
    | false => exact HT.into (h2 rfl σ F' H' g')
/-- if e: bd -/
theorem HT.when (h : TV X b Γ e c) (h1 : c = true → HT X b (C.into X b rest) Γ bd) (h2 : c = false → HT X b C Γ rest) : HT X b C Γ (.If e bd [] pos :: rest) := HT.ite h h1 fun q => HT.nil (h2 q)
theorem HT.brk (k : C.bk Γ) : HT X b C Γ (.Break pos :: rest) := HT.step ps_break fun σ F H g => ⟨Γ, F, g, k⟩
theorem HT.cont (k : C.ct Γ) : HT X b C Γ (.Continue pos :: rest) := HT.step ps_continue fun σ F H g => ⟨Γ, F, g, k⟩
theorem HT.pass (k : HT X b C Γ rest) : HT X b C Γ (.Pass pos :: rest) := HT.step ps_pass fun σ F H g => k σ F H g
/-- a way that can't be -/
theorem HT.no {sts : List Stmt} (h : False) : HT X b C Γ sts := h.elim
theorem HT.aug {op : Operator} {f : Int → Int → Int} {a c : Int} (ho : PIp X op (ipI f)) (i : Nat) (hΓ : Γ[i]? = some (some (im rI a))) (he : EV X b Γ e (im rI c)) (k : HT X b C (Γ.set i (some (im rI (f a c)))) rest) (nd : X.N.Nodup) (hi : X.N[i]? = some n := by rfl) (hx : Loc X.env.scope n := by first | exact Or.inl rfl | exact Or.inr rfl)
    (hf : X.fn n = true ∨ X.env.scope.names.lookup n = some .local := by first | exact .inl rfl | exact .inr rfl | assumption) : HT X b C Γ (.AugAssign (.Name n pos') op e pos :: rest) :=
  HT.step (ps_aug nd hi hx pe_w ho hf) fun σ F H ⟨l, g, d⟩ => by
    obtain ⟨v, l1, h1, h2, _⟩ := g.get hΓ
    refine ⟨v, h1, he σ F H l g d _ fun u F' H' l' w p _ => ⟨a, c, h2.2, p.2, k _ _ _ (Sg.put (s := im rI (f a c)) (l' := []) i g d w ⟨rfl, rfl⟩ fun _ h => nomatch h)⟩⟩
/-! lists of one's own -/
theorem Sg.chg {σ : L2.St} {F H : Hp} {l : List Addr} (g : SgL F H Γ σ l) (d : Gd b F H l) (hΓ : Γ[i]? = some (some (ow R as))) : ∃ p xs, σ[i]? = some (some (.ref p)) ∧ H p = some (.lst xs) ∧ All2 (R.r F) xs as ∧ ∀ xs' (bs : List β) (S : Rl β), All2 (S.r F) xs' bs → Sg b (Γ.set i (some (ow S bs))) σ F (upd H p (.lst xs')) := by
  obtain ⟨v, l1, h1, ⟨p, xs, rfl, rfl, h4, h5⟩, h6, h7⟩ := g.mod d.nd hΓ
  have hp := h6 p (List.mem_singleton.mpr rfl)
  refine ⟨p, xs, h1, h4, h5, fun xs' bs S h => ⟨l, h7 _ _ (fun a ha => upd_ne fun z => ha (List.mem_singleton.mpr z)) ⟨p, xs', rfl, rfl, upd_same, h⟩, d.ef, Ex.mut d.eb (d.ob p hp), Ex.mut d.e (d.of p hp), d.k, d.nd, d.of, d.ob⟩⟩
theorem HT.frz {sts : List Stmt} (i : Nat) (hΓ : Γ[i]? = some (some (ow R as))) (k : HT X b C (Γ.set i (some (im (rL R) as))) sts) : HT X b C Γ sts := fun σ F H ⟨l, g, d⟩ => by
  obtain ⟨v, l1, h1, ⟨p, xs, rfl, rfl, h4, h5⟩, h6, h7⟩ := g.frz d.nd hΓ
  have hp := h6 p (List.mem_singleton.mpr rfl)
  have fp := d.of p hp
  obtain ⟨l2, k1, k2, k3⟩ := h7 (upd F p (.lst xs)) (im (rL R) as) (Ex.new fp) ⟨rfl, p, xs, rfl, upd_same, h5.imp fun _ _ => R.m (Ex.new fp)⟩
  refine k σ (upd F p (.lst xs)) H ⟨l2, k1, d.ef.trans (Ex.new fp), d.eb, fun a u ha => ?_, fun a q1 q2 => ?_, k2, fun a ha => ?_, fun a ha => d.ob a (k3 a ha).1⟩
  · by_cases z : a = p
    · subst z; rw [upd_same] at ha; rw [h4]; exact ha
    · rw [upd_ne z] at ha; exact d.e a u ha
  · rw [upd_ne fun z => q2 (by rw [z]; exact d.ob p hp)]; exact d.k a q1 q2
  · rw [upd_ne fun z => (k3 a ha).2 (List.mem_singleton.mpr z)]; exact d.of a (k3 a ha).1
theorem HT.append {apos cpos np : Pos} (i : Nat) (hΓ : Γ[i]? = some (some (ow R as))) (he : EV X b Γ e (im R x)) (hz : as.length < 100000) (k : HT X b C (Γ.set i (some (ow R (as ++ [x])))) rest) (hN : X.N[i]? = some n := by rfl) (hv : Vis X.env.scope n := by first | exact Or.inl rfl | exact Or.inr (Or.inl rfl) | exact Or.inr (Or.inr rfl))
    (hd : (n == ("__debug__" : Str)) = false := by decide) (hcd : (n == ("__classdict__" : Str)) = false := by decide) (hse : starEach [e] X.env = (false, eval e X.env) :: starEach [] X.env := by rfl)
    (hbm : ∀ {t : TE} {ta : TA}, PE X (.Name n np) t → PA X [e] ta → PE X (.Call (.Attribute (.Name n np) "append" apos) [e] [] cpos) (tBM X.K "list" rAppend t ta) := by exact fun h1 h2 => pe_bm PySem.F.plainAttrs_list PySem.F.slot_list_append PySem.F.type_list_append mt_append h1 h2)
    (hs : swapsWith (.Call (.Attribute (.Name n np) "append" apos) [e] [] cpos) none pos.line X.env = pure false := by rfl) :
    HT X b C Γ (.Expr (.Call (.Attribute (.Name n np) "append" apos) [e] [] cpos) pos :: rest) :=
  HT.step (ps_expr (hbm (pe_var hN hv hd hcd) (pa_cons pe_w pa_nil hse)) hs) fun σ F H ⟨l, g, d⟩ => by
    obtain ⟨v, l1, h1, ⟨p, xs, rfl, rfl, h4, h5⟩, h6⟩ := g.get hΓ
    refine ⟨_, h1, Or.inl ⟨rfl, xs, SqL.of h4⟩, he σ F H l g d _ fun u F' H' l' w q _ => ?_⟩
    have g' := g.grow w
    obtain ⟨p', xs', k1, k2, k3, k4⟩ := Sg.chg (β := α) g' (d.grow g.t w) hΓ
    rw [h1] at k1
    cases k1
    refine ⟨p, xs', u, rfl, rfl, k2, sz_lt (by rw [k3.len]; exact hz), ?_⟩
    exact k σ F' _ (k4 (xs' ++ [u]) (as ++ [x]) R (k3.app (.cons q.2 .nil)))
/-- xs[k] = e -/
theorem HT.setI {np sp : Pos} {k : Int} {m : Nat} (i : Nat) (hΓ : Γ[i]? = some (some (ow R as))) (he : EV X b Γ e (im R x)) (hk : EV X b Γ e1 (im rI k)) (hm : ixN as.length k = some m) (q : HT X b C (Γ.set i (some (ow R (as.set m x)))) rest) (hN : X.N[i]? = some n := by rfl) (hv : Vis X.env.scope n := by first | exact Or.inl rfl | exact Or.inr (Or.inl rfl) | exact Or.inr (Or.inr rfl))
    (hd : (n == ("__debug__" : Str)) = false := by decide) (hcd : (n == ("__classdict__" : Str)) = false := by decide)
    (ha : ∀ {t t1 t2 : TE}, PE X e t → PE X (.Name n np) t1 → PE X e1 t2 → PS X (.Assign [.Subscript (.Name n np) e1 sp] e pos) (tAsg t (gSub t1 t2 rSetL)) := by exact fun h1 h2 h3 => ps_asg h1 (pg_sub h2 h3 set_list)) :
    HT X b C Γ (.Assign [.Subscript (.Name n np) e1 sp] e pos :: rest) :=
  HT.step (ha pe_w (pe_var hN hv hd hcd) pe_w) fun σ F H ⟨l, g, d⟩ => he σ F H l g d _ fun u F1 H1 l1 w1 p1 _ => by
    obtain ⟨v, l2, h1, ⟨p, xs, rfl, rfl, h4, h5⟩, h6⟩ := (g.grow w1).get hΓ
    have d1 := d.grow g.t w1
    have g1 := g.grow w1
    refine ⟨_, h1, hk σ F1 H1 l g1 d1 _ fun u2 F2 H2 l2 w2 p2 _ => ?_⟩
    obtain ⟨p', xs', k1, k2, k3, k4⟩ := Sg.chg (β := α) (g1.grow w2) (d1.grow g1.t w2) hΓ
    rw [h1] at k1
    cases k1
    exact ⟨p, xs', k, m, rfl, p2.2, k2, by rw [k3.len]; exact hm, q σ F2 _ (k4 _ _ R (All2.set (R.m w2.f p1.2) m k3))⟩
/-- xs[k] += e on ints -/
theorem HT.augI {op : Operator} {f : Int → Int → Int} {is : List Int} {np sp : Pos} {k a c : Int} {m : Nat} (ho : PIp X op (ipI f)) (i : Nat) (hΓ : Γ[i]? = some (some (ow rI is))) (hk : EV X b Γ e1 (im rI k)) (he : EV X b Γ e (im rI c)) (hm : ixN is.length k = some m) (ha : is[m]? = some a) (q : HT X b C (Γ.set i (some (ow rI (is.set m (f a c))))) rest)
    (hN : X.N[i]? = some n := by rfl) (hv : Vis X.env.scope n := by first | exact Or.inl rfl | exact Or.inr (Or.inl rfl) | exact Or.inr (Or.inr rfl)) (hd : (n == ("__debug__" : Str)) = false := by decide) (hcd : (n == ("__classdict__" : Str)) = false := by decide)
    (hg : PGet X (rIxL X.K)) (hau : ∀ ov iv new, augStore e1 ov iv new = (do holding [new, ov, iv] (setItem ov iv new); release [new, ov, iv] []; pure .next) := by intros; rfl) : HT X b C Γ (.AugAssign (.Subscript (.Name n np) e1 sp) op e pos :: rest) :=
  HT.step (ps_augS (pe_var hN hv hd hcd) pe_w hg pe_w ho set_list hau) fun σ F H ⟨l, g, d⟩ => by
    obtain ⟨v, l2, h1, ⟨p, xs, rfl, rfl, h4, h5⟩, h6⟩ := g.get hΓ
    refine ⟨_, h1, hk σ F H l g d _ fun u1 F1 H1 l1 w1 p1 _ => ?_⟩
    have d1 := d.grow g.t w1
    have g1 := g.grow w1
    obtain ⟨x0, hx0, rx0⟩ := h5.get ha
    have hx0' : atI xs k = some x0 := by unfold atI; rw [h5.len, hm]; exact hx0
    refine ⟨p, xs, k, x0, rfl, p1.2, SqL.of (w1.h p _ h4), hx0', he σ F1 H1 l g1 d1 _ fun u2 F2 H2 l2 w2 p2 _ => ?_⟩
    refine ⟨a, c, rx0, p2.2, ?_⟩
    obtain ⟨p', xs', k1, k2, k3, k4⟩ := Sg.chg (β := Int) (g1.grow w2) (d1.grow g1.t w2) hΓ
    rw [h1] at k1
    cases k1
    exact ⟨p, xs', k, m, rfl, p1.2, k2, by rw [k3.len]; exact hm, q σ F2 _ (k4 _ _ rI (All2.set (p := rI.r F2) rfl m k3))⟩
end
end Lg

namespace Lg
open PySem L2 Evl PyProof.Rows
theorem get_list {X : Cx} : PGet X (rIxL X.K) := by
  intro pins s σ H x y v u Q I rx ry h
  obtain ⟨p, xs, i, z, rfl, rfl, hq, he, q⟩ := h
  cases rx
  obtain ⟨t, rfl⟩ := ry
  obtain ⟨its, r, pl, hz⟩ := I.list hq
  obtain ⟨j, h1, h2, h3, h4, h5⟩ := atI_get he
  obtain ⟨w, ew, rw'⟩ := r.get h2
  have hl := r.length
  have hn := line63
  have fin : EP X pins σ Q w s := ⟨z, H, I, rw', q⟩
  by_cases h0 : 0 ≤ i
  · have hj : i.toNat = j := by
      rw [seqIndex_of h0 h5] at h1
      exact Option.some.inj h1
    exact wpAny_getItem_list pl.isList h0 (by omega) (by rw [hj]; simpa using ew) fin
  · have hj : (i + (its.toArray.size : Int)).toNat = j := by
      rw [seqIndex_neg (by omega) h4] at h1
      rw [List.size_toArray, ← hl]
      exact Option.some.inj h1
    exact wpAny_getItem_list_neg pl.isList (by omega) (by rw [List.size_toArray] <;> omega) (by omega) (by rw [hj]; simpa using ew) fin
/-! ### what is walked -/
/-- J gives n items, the i-th as IR i tells it -/
def ItOk (J : It) (F1 : Hp) (n : Nat) (IR : Nat → Im → Prop) : Prop := ∃ (G : Hp → Prop) (Y : Nat → Hp → V → Hp → Prop), Walk J n G Y ∧ (∀ F' H', Ex F1 F' → Ex F' H' → G H') ∧
  ∀ i F' H' v H'', i < n → Ex F1 F' → Ex F' H' → Y i H' v H'' → ∃ F'' y, Gw F' H' F'' H'' ∧ IR i y ∧ y.R.r F'' v y.a
def IV (X : Cx) (b : Bs) (Γ : Ctx) (tg iter : Expr) (n : Nat) (IR : Nat → Im → Prop) : Prop := ∃ wi, PI X tg iter wi ∧ ∀ σ F H l, SgL F H Γ σ l → Gd b F H l → ∀ R : It → Hp → Prop, (∀ J F1 H1, Gw F H F1 H1 → ItOk J F1 n IR → R J H1) → wi σ H R
/-- items of a list -/
def IL {α : Type} (R : Rl α) (as : List α) : Nat → Im → Prop := fun i y => ∃ a, as[i]? = some a ∧ y = mk R a
def IRg (lo : Int) : Nat → Im → Prop := fun i y => y = mk rI (lo + (i : Int))
def IRz : Nat → Im → Prop := fun i y => y = mk rI (i : Int)
def IEn {α : Type} (R : Rl α) (as : List α) : Nat → Im → Prop := fun i y => ∃ a, as[i]? = some a ∧ y = mk (rP rI R) ((i : Int), a)
def IZp {α β : Type} (R : Rl α) (S : Rl β) (as : List α) (bs : List β) : Nat → Im → Prop := fun i y => ∃ a c, as[i]? = some a ∧ bs[i]? = some c ∧ y = mk (rP R S) (a, c)
section
variable {X : Cx} {b : Bs} {Γ : Ctx} {e e1 e2 tg : Expr} {α β : Type} {R : Rl α} {S : Rl β} {as : List α} {bs : List β} {i j : Int} {p pos : Pos}
theorem IV.list (h : EV X b Γ e (im (rL R) as)) : IV X b Γ tg e as.length (IL R as) := ⟨_, pi_list pe_w, fun σ F H l g d Q q => h σ F H l g d _ fun v F1 H1 l1 w ⟨_, a, xs, h1, h2, h3⟩ _ =>
  ⟨a, h1, ⟨xs, SqL.of (w.e a _ h2)⟩, q _ F1 H1 w (by
    rw [← h3.len]
    refine ⟨_, _, walk_list, fun F' H' e1 e2 => SqL.of (e2 a _ (e1 a _ h2)), fun i F' H' v H'' hi e1 e2 y => ?_⟩
    obtain ⟨rfl, hy⟩ := y
    obtain ⟨a0, k1, k2⟩ := h3.getV hy
    exact ⟨F', mk R a0, Gw.refl e2, ⟨a0, k1, rfl⟩, R.m e1 k2⟩)⟩⟩
theorem IV.tup (h : EV X b Γ e (im (rT R) as)) : IV X b Γ tg e as.length (IL R as) := ⟨_, pi_tup pe_w, fun σ F H l g d Q q => h σ F H l g d _ fun v F1 H1 l1 w ⟨_, a, xs, h1, h2, h3⟩ _ =>
  ⟨a, h1, ⟨xs, SqT.of (w.e a _ h2)⟩, q _ F1 H1 w (by
    rw [← h3.len]
    refine ⟨_, _, walk_tup, fun F' H' e1 e2 => SqT.of (e2 a _ (e1 a _ h2)), fun i F' H' v H'' hi e1 e2 y => ?_⟩
    obtain ⟨rfl, hy⟩ := y
    obtain ⟨a0, k1, k2⟩ := h3.getV hy
    exact ⟨F', mk R a0, Gw.refl e2, ⟨a0, k1, rfl⟩, R.m e1 k2⟩)⟩⟩
theorem ims1 {F : Hp} {vs : List V} {x : Im} (h : Ims F vs [x]) : ∃ v, vs = [v] ∧ x.R.r F v x.a := by
  cases h with
  | cons h1 h2 => cases h2; exact ⟨_, rfl, h1⟩
theorem ims2 {F : Hp} {vs : List V} {x y : Im} (h : Ims F vs [x, y]) : ∃ v w, vs = [v, w] ∧ x.R.r F v x.a ∧ y.R.r F w y.a := by
  cases h with
  | cons h1 h2 =>
    obtain ⟨w, rfl, h3⟩ := ims1 h2
    exact ⟨_, _, rfl, h1, h3⟩
theorem IV.rng1 (h : AV X b Γ [e] [mk rI j]) (hj : -(2 ^ 62) ≤ j ∧ j < 2 ^ 62) (hm : X.mg "range" = none) (hg : Gl X "range" := by rfl) (hs : starEach [e] X.env = [(false, eval e X.env)] := by rfl) : IV X b Γ tg (.Call (.Name "range" p) [e] [] pos) j.toNat IRz := by
  obtain ⟨ta, h1, h2⟩ := h
  refine ⟨_, pi_range1 hg hm h1 hs, fun σ F H l g d Q q => h2 σ F H l g d _ fun vs F1 H1 w k => ?_⟩
  obtain ⟨v, rfl, hv⟩ := ims1 k
  refine ⟨j, by rw [show v = V.int j from hv], hj.1, hj.2, q _ F1 H1 w ⟨_, _, walk_range, fun _ _ _ _ => trivial, fun i F' H' v H'' hi e1 e2 y => ?_⟩⟩
  obtain ⟨rfl, rfl⟩ := y
  exact ⟨F', mk rI (i : Int), Gw.refl e2, rfl, congrArg V.int (Int.zero_add _)⟩
theorem IV.rng2 (h : AV X b Γ [e1, e2] [mk rI i, mk rI j]) (hi : -(2 ^ 62) ≤ i ∧ i < 2 ^ 62) (hj : -(2 ^ 62) ≤ j ∧ j < 2 ^ 62) (hm : X.mg "range" = none) (hg : Gl X "range" := by rfl) (hs : starEach [e1, e2] X.env = [(false, eval e1 X.env), (false, eval e2 X.env)] := by rfl)
    (hs2 : starEach [e2] X.env = [(false, eval e2 X.env)] := by rfl) : IV X b Γ tg (.Call (.Name "range" p) [e1, e2] [] pos) (j - i).toNat (IRg i) := by
  obtain ⟨ta, h1, h2⟩ := h
  refine ⟨_, pi_range2 hg hm h1 hs hs2, fun σ F H l g d Q q => h2 σ F H l g d _ fun vs F1 H1 w k => ?_⟩
  obtain ⟨v, u, rfl, hv, hu⟩ := ims2 k
  refine ⟨i, j, by rw [show v = V.int i from hv, show u = V.int j from hu], ⟨hi.1, hi.2, hj.1, hj.2⟩, q _ F1 H1 w ⟨_, _, walk_range, fun _ _ _ _ => trivial, fun i F' H' v H'' hi e1 e2 y => ?_⟩⟩
  obtain ⟨rfl, rfl⟩ := y
  exact ⟨F', _, Gw.refl e2, rfl, rfl⟩
theorem IV.enum {elts : List Expr} {kk : Nat} {tpos : Pos} (h : AV X b Γ [e] [mk (rL R) as]) (hm : X.mg "enumerate" = none) (hg : Gl X "enumerate" := by rfl) (hs : starEach [e] X.env = [(false, eval e X.env)] := by rfl) :
    IV X b Γ (.Tuple elts kk tpos) (.Call (.Name "enumerate" p) [e] [] pos) as.length (IEn R as) := by
  obtain ⟨ta, h1, h2⟩ := h
  refine ⟨_, pi_enum hg hm h1 hs, fun σ F H l g d Q q => h2 σ F H l g d _ fun vs F1 H1 w k => ?_⟩
  obtain ⟨v, rfl, a, xs, rfl, hp, hx⟩ := ims1 k
  refine ⟨a, xs, rfl, SqL.of (w.e a _ hp), q _ F1 H1 w (by
    have hl := hx.len
    rw [show as.length = xs.length from hl.symm]
    refine ⟨_, _, walk_enum, fun F' H' e1 e2 => SqL.of (e2 a _ (e1 a _ hp)), fun i F' H' v H'' hi e1 e2 y => ?_⟩
    obtain ⟨T, x, y, rfl, hT, rfl, k1, k2⟩ := y
    cases k1
    obtain ⟨a0, z1, z2⟩ := All2.getV hx k2
    exact ⟨_, mk (rP rI R) ((i : Int), a0), Gw.new e2 hT, ⟨a0, z1, rfl⟩, T, _, _, rfl, upd_same, rfl, R.m (e1.trans (Ex.new (ex_none e2 hT))) z2⟩)⟩
theorem IV.zip {elts : List Expr} {kk : Nat} {tpos : Pos} (h : AV X b Γ [e1, e2] [mk (rL R) as, mk (rL S) bs]) (hl : as.length = bs.length) (hm : X.mg "zip" = none) (hg : Gl X "zip" := by rfl) (hs : starEach [e1, e2] X.env = (false, eval e1 X.env) :: starEach [e2] X.env := by rfl)
    (hpl : (backTo pos (starEach [e2] X.env)).any (·.1) = false := by rfl) : IV X b Γ (.Tuple elts kk tpos) (.Call (.Name "zip" p) [e1, e2] [] pos) as.length (IZp R S as bs) := by
  obtain ⟨ta, h1, h2⟩ := h
  refine ⟨_, pi_zip hg hm h1 hs hpl, fun σ F H l g d Q q => h2 σ F H l g d _ fun vs F1 H1 w k => ?_⟩
  obtain ⟨v, u, rfl, ⟨a, xs, rfl, hp, hx⟩, ⟨c, ys, rfl, hp', hy⟩⟩ := ims2 k
  refine ⟨a, c, xs, ys, rfl, SqL.of (w.e a _ hp), SqL.of (w.e c _ hp'), q _ F1 H1 w (by
    have hlx : xs.length = as.length := hx.len
    have hly : ys.length = bs.length := hy.len
    refine ⟨_, _, walk_zip (xs := xs) (ys := ys) (n := as.length) (by omega), fun F' H' e1 e2 => ⟨SqL.of (e2 a _ (e1 a _ hp)), SqL.of (e2 c _ (e1 c _ hp'))⟩, fun i F' H' v H'' hi e1 e2 y => ?_⟩
    obtain ⟨T, x, y, rfl, hT, rfl, k1, k2⟩ := y
    obtain ⟨a0, z1, z2⟩ := All2.getV hx k1
    obtain ⟨c0, z3, z4⟩ := All2.getV hy k2
    have ee := e1.trans (Ex.new (o := HO.tup [x, y]) (ex_none e2 hT))
    exact ⟨_, mk (rP R S) (a0, c0), Gw.new e2 hT, ⟨a0, c0, z1, z3, rfl⟩, T, _, _, rfl, upd_same, R.m ee z2, S.m ee z4⟩)⟩
end
/-! ### targets -/
def wG (X : Cx) (tg : Expr) : TG := fun v σ H Q => ∀ pins s u, Inv X pins σ H s → RelV v u → wpAny (model X.prog X.w) X.A (assign tg X.env u) (fun _ s' => ∃ σ' H', Inv X pins σ' H' s' ∧ Q σ' H') X.xe s
theorem pg_w {X : Cx} {tg : Expr} : PG X tg (wG X tg) := ⟨fun pins s σ H v u Q I r h => h pins s u I r⟩
theorem wG.of {X : Cx} {tg : Expr} {g : TG} {v : V} {σ : L2.St} {H : Hp} {Q : L2.St → Hp → Prop} (h : PG X tg g) (q : g v σ H Q) : wG X tg v σ H Q := fun pins s u I r => h.run pins s σ H v u Q I r q
/-- y is stored to the target: Γ' behind -/
def GvS (b : Bs) (Γ : Ctx) (g : TG) (y : Im) (Γ' : Ctx) : Prop := ∀ σ F H v, Sg b Γ σ F H → y.R.r F v y.a → ∀ Q : L2.St → Hp → Prop, (∀ σ', Sg b Γ' σ' F H → Q σ' H) → g v σ H Q
def GV (X : Cx) (b : Bs) (Γ : Ctx) (tg : Expr) (y : Im) (Γ' : Ctx) : Prop := ∃ g, PG X tg g ∧ GvS b Γ g y Γ'
/-- several -/
def GsS (b : Bs) (Γ : Ctx) (g : TGs) (ys : List Im) (Γ' : Ctx) : Prop := ∀ σ F H vs, Sg b Γ σ F H → Ims F vs ys → ∀ Q : L2.St → Hp → Prop, (∀ σ', Sg b Γ' σ' F H → Q σ' H) → g vs σ H Q
def GsV (X : Cx) (b : Bs) (Γ : Ctx) (tgs : List Expr) (ys : List Im) (Γ' : Ctx) : Prop := ∃ g, PGs X tgs g ∧ GsS b Γ g ys Γ'
section
variable {X : Cx} {b : Bs} {C : EndC} {Γ Γ' Γ'' : Ctx} {e tg : Expr} {y : Im} {ys : List Im} {α β γ : Type} {R : Rl α} {S : Rl β} {T : Rl γ} {x : α} {z : β} {as : List α} {n : Str} {p pos : Pos} {rest bd : List Stmt}
theorem Sg.put0 {σ : L2.St} {F H : Hp} {v : V} {s : Sl} (i : Nat) (g : Sg b Γ σ F H) (p : s.P F H v []) : Sg b (Γ.set i (some s)) (σ.set i (some v)) F H := by
  obtain ⟨l, g, d⟩ := g
  exact Sg.put i g d (Gw.refl d.e) p fun _ h => nomatch h
theorem GV.name (i : Nat) (nd : X.N.Nodup) (hi : X.N[i]? = some n := by rfl) (hx : Loc X.env.scope n := by first | exact Or.inl rfl | exact Or.inr rfl) (hf : X.fn n = true ∨ X.env.scope.names.lookup n = some .local := by first | exact .inl rfl | exact .inr rfl | assumption) :
    GV X b Γ (.Name n pos) (mk R x) (Γ.set i (some (im R x))) := ⟨_, pg_name nd hi hx hf, fun σ F H v g hv Q q => q _ (Sg.put0 i g ⟨rfl, hv⟩)⟩
theorem GsV.nil : GsV X b Γ [] [] Γ := ⟨_, pgs_nil, fun σ F H vs g h Q q => by cases h; exact ⟨rfl, q σ g⟩⟩
theorem GsV.cons {es : List Expr} (h : GV X b Γ e y Γ') (k : GsV X b Γ' es ys Γ'') (hs : ∀ {t u}, PG X e t → PGs X es u → PGs X (e :: es) (gCons t u) := by exact fun h1 h2 => pgs_cons h1 h2) : GsV X b Γ (e :: es) (y :: ys) Γ'' := by
  obtain ⟨g1, p1, k1⟩ := h
  obtain ⟨g2, p2, k2⟩ := k
  refine ⟨_, hs p1 p2, fun σ F H vs g hv Q q => ?_⟩
  cases hv with
  | cons h1 h2 => exact ⟨_, _, rfl, k1 σ F H _ g h1 _ fun σ' g' => k2 σ' F H _ g' h2 Q q⟩
theorem Ims.ofAll {F : Hp} : ∀ {vs : List V} {as : List α}, All2 (R.r F) vs as → Ims F vs (as.map (mk R))
  | _, _, .nil => .nil
  | _, _, .cons u h => .cons (x := mk R _) u (Ims.ofAll h)
theorem GV.tup {es : List Expr} {kk : Nat} (h : GsV X b Γ es (as.map (mk R)) Γ') (hs : ∀ {t : TGs}, PGs X es t → PG X (.Tuple es kk pos) (gTup X.K as.length t) := by exact fun h => pg_tup (by rfl) h) : GV X b Γ (.Tuple es kk pos) (mk (rT R) as) Γ' := by
  obtain ⟨g1, p1, k1⟩ := h
  refine ⟨_, hs p1, fun σ F H v g ⟨a, xs, h1, h2, h3⟩ Q q => ⟨a, xs, h1, ?_, h3.len, k1 σ F H xs g (Ims.ofAll h3) Q q⟩⟩
  obtain ⟨l, g, d⟩ := g
  exact SqT.of (d.e a _ h2)
theorem GV.pair {es : List Expr} {kk : Nat} {c : α × β} (h : GsV X b Γ es [mk R c.1, mk S c.2] Γ') (hs : ∀ {t : TGs}, PGs X es t → PG X (.Tuple es kk pos) (gTup X.K 2 t) := by exact fun h => pg_tup (by rfl) h) : GV X b Γ (.Tuple es kk pos) (mk (rP R S) c) Γ' := by
  obtain ⟨g1, p1, k1⟩ := h
  refine ⟨_, hs p1, fun σ F H v g ⟨a, u, w, h1, h2, h3, h4⟩ Q q => ⟨a, _, h1, ?_, rfl, k1 σ F H _ g (.cons h3 (.cons h4 .nil)) Q q⟩⟩
  obtain ⟨l, g, d⟩ := g
  exact SqT.of (d.e a _ h2)
/-- target = e -/
theorem HT.asg (he : EV X b Γ e (im R x)) (h : GV X b Γ tg (mk R x) Γ') (k : HT X b C Γ' rest) (hs : swapsWithSole [tg] e pos.line X.env = pure false := by rfl) (hw : swappedStores [tg] e X.env = pure none := by rfl)
    (h1 : (assignEach [tg] X.env).map (·.2) = [assign tg X.env] := by rfl) : HT X b C Γ (.Assign [tg] e pos :: rest) := by
  obtain ⟨g1, p1, k1⟩ := h
  exact HT.step (ps_asg pe_w p1 hs hw h1) fun σ F H ⟨l, g, d⟩ => he σ F H l g d _ fun v F' H' l' w p _ => k1 σ F' H' v ⟨l, g.grow w, d.grow g.t w⟩ p.2 _ fun σ' g' => k σ' F' H' g'
/-- the base taken further up -/
structure Up (b b' : Bs) : Prop where
  B : b'.B = b.B
  f : Ex b.F b'.F
  k : ∀ a, b.F a = none → b.B a ≠ none → b'.F a = none
theorem Up.gd {b' : Bs} {F H : Hp} {l : List Addr} (u : Up b b') (d : Gd b' F H l) : Gd b F H l :=
  ⟨u.f.trans d.ef, u.B ▸ d.eb, d.e, fun a h1 h2 => d.k a (u.k a h1 h2) (u.B ▸ h2), d.nd, d.of, fun a ha => u.B ▸ d.ob a ha⟩
theorem Up.sg {b' : Bs} {F H : Hp} {σ : L2.St} (u : Up b b') (g : Sg b' Γ σ F H) : Sg b Γ σ F H := let ⟨l, g, d⟩ := g; ⟨l, g, u.gd d⟩
theorem Up.at {b' : Bs} {H : Hp} {σ : L2.St} {P : Ctx → Prop} (u : Up b b') (h : At b' P σ H) : At b P σ H := let ⟨Γ, F, g, p⟩ := h; ⟨Γ, F, u.sg g, p⟩
theorem Up.rt {b' : Bs} {H : Hp} {v : V} {P : Sl → Prop} (u : Up b b') (h : Rt b' P v H) : Rt b P v H := let ⟨s, F, l, p, d, q⟩ := h; ⟨s, F, l, p, u.gd d, q⟩
theorem Gd.up {F H : Hp} {l : List Addr} (d : Gd b F H l) : Up b ⟨F, b.B⟩ := ⟨rfl, d.ef, d.k⟩
theorem Gd.self {F H : Hp} {l : List Addr} (d : Gd b F H l) : Gd ⟨F, b.B⟩ F H l := ⟨Ex.refl F, d.eb, d.e, fun _ h _ => h, d.nd, d.of, d.ob⟩
/-- a loop: Inv by the turn and the slots -/
theorem HT.for {iter : Expr} {m : Nat} {IR : Nat → Im → Prop} (hi : IV X b Γ tg iter m IR) (Inv : Nat → Ctx → Prop) (h0 : Inv 0 Γ)
    (hs : ∀ b' i y Γ', b'.B = b.B → i < m → IR i y → Inv i Γ' → ∃ Γ'', GV X b' Γ' tg y Γ'' ∧ HT X b' { C with nx := Inv (i + 1), ct := Inv (i + 1), bk := fun Γ => HT X b C Γ rest } Γ'' bd) (hd : ∀ Γ', Inv m Γ' → HT X b C Γ' rest)
    (hp : PassesOwn (model X.prog X.w) X.A X.env X.xe) (hc : X.calm = true := by rfl) (hf : ∀ x, foldedSetIterable iter X.env x = pure x := by intro _; rfl) : HT X b C Γ (.For tg iter bd [] pos :: rest) := by
  obtain ⟨wi, p1, k1⟩ := hi
  refine HT.step (ps_for hp hc p1 pg_w pss_w hf) fun σ F H ⟨l, g, d⟩ => k1 σ F H l g d _ fun J F1 H1 w ⟨G, Y, W, hG, hY⟩ => ?_
  have d1 := d.grow g.t w
  have u1 := d1.up
  refine for_it W (fun i σ' H' => At ⟨F1, b.B⟩ (Inv i) σ' H') ⟨Γ, F1, ⟨l, g.grow w, d1.self⟩, h0⟩ (fun i σ' H' _ ⟨Γ', F', ⟨l', g', d'⟩, _⟩ => hG F' H' d'.ef d'.e) (fun i v σ' H' H'' hi ⟨Γ', F', ⟨l', g', d'⟩, iv⟩ y => ?_) (fun σ' H' ⟨Γ', F', g', iv⟩ => hd Γ' iv σ' F' H' (u1.sg g'))
  obtain ⟨F'', y0, w', r1, r2⟩ := hY i F' H' v H'' hi d'.ef d'.e y
  have d2 := d'.grow g'.t w'
  obtain ⟨Γ'', ⟨g0, q1, q2⟩, q3⟩ := hs ⟨F'', b.B⟩ i y0 Γ' rfl hi r1 iv
  have u2 : Up ⟨F1, b.B⟩ ⟨F'', b.B⟩ := d2.up
  refine wG.of q1 (q2 σ' F'' H'' v ⟨l', g'.grow w', d2.self⟩ r2 _ fun σ2 g2 => ?_)
  refine wS.mono (q3 σ2 F'' H'' g2) (fun _ _ h => u2.at h) (fun _ _ h => u1.rt (u2.rt h)) (fun σ3 H3 h => ?_) (fun _ _ h => u2.at h)
  obtain ⟨Γ3, F3, g3, h3⟩ := h
  exact h3 σ3 F3 H3 (u1.sg (u2.sg g3))
end
end Lg

namespace Lg
open PySem L2 Evl PyProof.Rows
/-! ### comprehensions -/
def wEb (X : Cx) (scope : Scope) (e : Expr) : TE := fun σ H Q => ∀ (s : Shared) (H0 : Hp) (C : Addr) (cl : List (Str × Addr)) (fp : List Addr), wE (X.blk s H0 scope (compEnvC scope cl C X.env) fp) e σ H Q
def wTb (X : Cx) (scope : Scope) (e : Expr) : TT := fun σ H Q => ∀ (s : Shared) (H0 : Hp) (C : Addr) (cl : List (Str × Addr)) (fp : List Addr), wT (X.blk s H0 scope (compEnvC scope cl C X.env) fp) e σ H Q
section
variable {X : Cx} {b : Bs} {Γ Γ' : Ctx} {e e1 e2 elt iter : Expr} {α β γ : Type} {R : Rl α} {S : Rl γ} {as : List α} {scope : Scope} {n : Str} {np pos : Pos} {j m : Nat} {IR : Nat → Im → Prop}
theorem pe_wb {s : Shared} {H0 : Hp} {C : Addr} {cl : List (Str × Addr)} {fp : List Addr} : PE (X.blk s H0 scope (compEnvC scope cl C X.env) fp) e (wEb X scope e) := ⟨fun pins s' _ _ _ I h => h s H0 C cl fp pins s' I⟩
theorem pt_wb {s : Shared} {H0 : Hp} {C : Addr} {cl : List (Str × Addr)} {fp : List Addr} : PT (X.blk s H0 scope (compEnvC scope cl C X.env) fp) e (wTb X scope e) := ⟨fun pins s' _ _ _ I h => h s H0 C cl fp pins s' I⟩
/-- a comprehension: as a value, and stored to a local name -/
def LV (X : Cx) (b : Bs) (Γ : Ctx) (e : Expr) (s : Sl) : Prop := ∃ te, PE X e te ∧ EvS b Γ te s ∧ ∀ (i : Nat) (y : Str) (py spos : Pos), X.N[i]? = some y → X.env.scope.names.lookup y = some .local → swapsWith e (some (.Name y py)) spos.line X.env = pure true → PS X (.Assign [.Name y py] e spos) (tAsg te (gName i))
theorem LV.ev {s : Sl} (h : LV X b Γ e s) : EV X b Γ e s := by
  obtain ⟨te, h1, h2, _⟩ := h
  exact EV.of h1 h2
theorem HT.setC {D : EndC} {s : Sl} {y : Str} {py spos : Pos} {rest : List Stmt} (i : Nat) (h : LV X b Γ e s) (k : HT X b D (Γ.set i (some s)) rest) (hsw : swapsWith e (some (.Name y py)) spos.line X.env = pure true) (hi : X.N[i]? = some y := by rfl) (hy : X.env.scope.names.lookup y = some .local := by rfl) : HT X b D Γ (.Assign [.Name y py] e spos :: rest) := by
  obtain ⟨te, _, h2, h3⟩ := h
  exact HT.step (h3 i y py spos hi hy hsw) fun σ F H ⟨l, g, d⟩ => h2 σ F H l g d _ fun v F' H' l' w p f => k _ _ _ (Sg.put i g d w p f)
/-- what stands in a comprehension's turn -/
structure Cv (b : Bs) (F1 H1 : Hp) (Γ : Ctx) (σ : L2.St) (D : Addr) (l : List Addr) (F' H' : Hp) : Prop where
  g : SgL F' H' Γ σ l
  d : Gd ⟨F1, b.B⟩ F' H' l
  w : Gw F1 H1 F' H'
  nl : D ∉ l
  nB : b.B D = none
  nF : F' D = none
  nH : H1 D = none
theorem Cv.grow {F1 H1 F' H' F2 H2 : Hp} {σ : L2.St} {D : Addr} {l : List Addr} (c : Cv b F1 H1 Γ σ D l F' H') (hD : H' D ≠ none) (w : Gw F' H' F2 H2) : Cv b F1 H1 Γ σ D l F2 H2 :=
  ⟨c.g.grow w, c.d.grow c.g.t w, c.w.trans w, c.nl, c.nB, w.k D c.nF hD, c.nH⟩
theorem Cv.upd {F1 H1 F' H' : Hp} {σ : L2.St} {D : Addr} {l : List Addr} {o : HO} (c : Cv b F1 H1 Γ σ D l F' H') : Cv b F1 H1 Γ σ D l F' (upd H' D o) :=
  ⟨SgL.m (Ex.refl F') (fun a ha => upd_ne fun z => c.nl (z ▸ ha)) c.g, ⟨c.d.ef, Ex.mut c.d.eb c.nB, Ex.mut c.d.e c.nF, c.d.k, c.d.nd, c.d.of, c.d.ob⟩, ⟨c.w.f, Ex.mut c.w.h c.nH, Ex.mut c.w.e c.nF, c.w.k⟩, c.nl, c.nB, c.nF, c.nH⟩
theorem wipe1 {σ : L2.St} {j : Nat} : wipe σ [j] = σ.set j none := rfl
theorem EvS.lcG (out : Nat → Option γ) {tt : TT} {wi : TI} (k1 : ∀ σ F H l, SgL F H Γ σ l → Gd b F H l → ∀ R : It → Hp → Prop, (∀ J F1 H1, Gw F H F1 H1 → ItOk J F1 m IR → R J H1) → wi σ H R) (hm : m ≤ 100000)
    (ht : ∀ b' i y, b'.B = b.B → i < m → IR i y → TvS b' ((Γ.set j none).set j (some (im y.R y.a))) tt (out i).isSome)
    (he : ∀ b' i y s H0 C cl fp z, b'.B = b.B → i < m → IR i y → out i = some z → EV (X.blk s H0 scope (compEnvC scope cl C X.env) fp) b' ((Γ.set j none).set j (some (im y.R y.a))) elt (im S z)) :
    EvS b Γ (tLc wi (gName j) tt (wEb X scope elt) ([(n, j)].map (·.2))) (ow S ((List.range m).filterMap out)) := fun σ F H l g d Q q => by
  refine k1 σ F H l g d _ fun J F1 H1 w ⟨G, Y, W, hG, hY⟩ D hD => ?_
  have d1 := d.grow g.t w
  have g1 := g.grow w
  obtain ⟨l2, g2, nd2, sub2⟩ := SgL.put (o' := none) (w := none) (l' := []) trivial List.nodup_nil j g1 d1.nd (fun _ h => nomatch h)
  have sub2 : ∀ a ∈ l2, a ∈ l := fun a ha => by
    rcases sub2 a ha with z | z
    · exact z
    · cases z
  have d2 : Gd ⟨F1, b.B⟩ F1 H1 l2 := d1.self.of_l nd2 fun a ha => ⟨d1.of a (sub2 a ha), d1.ob a (sub2 a ha)⟩
  have nB : b.B D = none := ex_none d1.eb hD
  have nF : F1 D = none := ex_none d1.e hD
  have nl : D ∉ l2 := fun z => g1.t D (sub2 D z) hD
  have c0 : Cv b F1 H1 (Γ.set j none) (σ.set j none) D l2 F1 (upd H1 D (.lst [])) := Cv.upd ⟨g2, d2, Gw.refl d1.e, nl, nB, nF, hD⟩
  show ∃ W : Nat → Nat → Hp → Prop, _
  refine lc_it W (fun i H' => ∃ F' acc, Cv b F1 H1 (Γ.set j none) (σ.set j none) D l2 F' H' ∧ H' D = some (.lst acc) ∧ All2 (S.r F') acc ((List.range i).filterMap out) ∧ i ≤ m) ⟨F1, [], c0, upd_same, .nil, Nat.zero_le _⟩ (fun i H' _ ⟨F', acc, c, _, _, _⟩ => hG F' H' c.d.ef c.d.e)
    (fun i v H' H'' hi ⟨F', acc, c, ha, hall, hm'⟩ y => ?_) (fun H' ⟨F', acc, c, ha, hall, _⟩ => q (.ref D) F' H' [D] (w.trans c.w) ⟨D, acc, rfl, rfl, ha, hall⟩ fun a h => by rw [List.mem_singleton.mp h]; exact ⟨ex_none w.h hD, c.nF⟩)
  obtain ⟨F'', y0, w', r1, r2⟩ := hY i F' H' v H'' hi c.d.ef c.d.e y
  have hDn : H' D ≠ none := by rw [ha]; exact fun z => nomatch z
  have c2 := c.grow hDn w'
  have ha2 : H'' D = some (.lst acc) := w'.h D _ ha
  show wipe ((σ.set j none).set j (some v)) [j] = wipe σ [j] ∧ tt ((σ.set j none).set j (some v)) H'' fun b H3 => _
  refine ⟨by rw [wipe1, wipe1, List.set_set, List.set_set], ?_⟩
  obtain ⟨l3, g3, nd3, sub3⟩ := SgL.put (o' := some (im y0.R y0.a)) (w := some v) (l' := []) ⟨v, rfl, rfl, r2⟩ List.nodup_nil j c2.g c2.d.nd (fun _ h => nomatch h)
  have sub3 : ∀ a ∈ l3, a ∈ l2 := fun a ha => by
    rcases sub3 a ha with z | z
    · exact z
    · cases z
  have d3 : Gd ⟨F1, b.B⟩ F'' H'' l3 := c2.d.of_l nd3 fun a ha => ⟨c2.d.of a (sub3 a ha), c2.d.ob a (sub3 a ha)⟩
  refine ht ⟨F1, b.B⟩ i y0 rfl hi r1 _ F'' H'' l3 g3 d3 _ fun F3 H3 w3 => ?_
  have hD2 : H'' D ≠ none := by rw [ha2]; exact fun z => nomatch z
  have c3 := c2.grow hD2 w3
  cases ho : out i with
  | none =>
    refine ⟨F3, acc, c3, w3.h D _ ha2, ?_, hi⟩
    rw [List.range_succ, List.filterMap_append]
    simp only [List.filterMap_cons, ho, List.filterMap_nil, List.append_nil]
    exact hall.imp fun _ _ => S.m (w'.f.trans w3.f)
  | some z =>
    intro s H0 C cl fp
    refine he ⟨F1, b.B⟩ i y0 s H0 C cl fp z rfl hi r1 ho _ F3 H3 l3 (g3.grow w3) (d3.grow g3.t w3) _ fun u F4 H4 l4 w4 p4 _ => ?_
    have hD3 : H3 D ≠ none := by rw [w3.h D _ ha2]; exact fun z => nomatch z
    have c4 := c3.grow hD3 w4
    have a4 := w4.h D _ (w3.h D _ ha2)
    have all4 : All2 (S.r F4) acc ((List.range i).filterMap out) := hall.imp fun _ _ => S.m ((w'.f.trans w3.f).trans w4.f)
    have hl : acc.length ≤ i := by
      rw [hall.len]
      refine Nat.le_trans (List.length_filterMap_le _ _) ?_
      rw [List.length_range]; omega
    refine ⟨acc, a4, sz_lt (by omega), F4, acc ++ [u], c4.upd, upd_same, ?_, hi⟩
    rw [List.range_succ, List.filterMap_append]
    simp only [List.filterMap_cons, ho, List.filterMap_nil]
    exact all4.app (.cons p4.2 .nil)
theorem LV.lcG (out : Nat → Option γ) {ifs : List Expr} {tt : TT} (hi : IV X b Γ (.Name n np) iter m IR) (nd : X.N.Nodup) (ok : blkC X.N X.env.scope scope [(n, j)] = true) (hm : m ≤ 100000) (hp : ∀ (s : Shared) (H0 : Hp) (C : Addr) (cl : List (Str × Addr)) (fp : List Addr), PTs (X.blk s H0 scope (compEnvC scope cl C X.env) fp) ifs tt)
    (ht : ∀ b' i y, b'.B = b.B → i < m → IR i y → TvS b' ((Γ.set j none).set j (some (im y.R y.a))) tt (out i).isSome)
    (he : ∀ b' i y s H0 C cl fp z, b'.B = b.B → i < m → IR i y → out i = some z → EV (X.blk s H0 scope (compEnvC scope cl C X.env) fp) b' ((Γ.set j none).set j (some (im y.R y.a))) elt (im S z))
    (hg : ∀ (s : Shared) (H0 : Hp) (C : Addr) (cl : List (Str × Addr)) (fp : List Addr), PG (X.blk s H0 scope (compEnvC scope cl C X.env) fp) (.Name n np) (gName j)) (hc : X.calm = true) (hf : ∀ x, foldedSetIterable iter X.env x = pure x) :
    LV X b Γ (.ListComp elt [⟨.Name n np, iter, ifs, 0⟩] scope pos) (ow S ((List.range m).filterMap out)) := by
  obtain ⟨wi, p1, k1⟩ := hi
  exact ⟨_, pe_lc (own := [(n, j)]) (g := gName j) (tt := tt) (te := wEb X scope elt) hc nd p1 (blkOk_by ok) hg hp (fun _ _ _ _ _ => pe_wb) hf, EvS.lcG (n := n) out k1 hm ht he, fun i y py spos hi hy hsw => ps_setLc (own := [(n, j)]) (g := gName j) (tt := tt) (te := wEb X scope elt) hc nd hi hy hsw p1 (blkOk_by ok) hg hp (fun _ _ _ _ _ => pe_wb) hf⟩
theorem TvS.blk {c : Bool} (h : ∀ (s : Shared) (H0 : Hp) (C : Addr) (cl : List (Str × Addr)) (fp : List Addr), TV (X.blk s H0 scope (compEnvC scope cl C X.env) fp) b Γ e c) : TvS b Γ (wTb X scope e) c := fun σ F H l g d Q q s H0 C cl fp => h s H0 C cl fp σ F H l g d Q q
theorem TvS.yes : TvS b Γ tYes true := fun σ F H l g d Q q => q F H (Gw.refl d.e)
theorem fm_congr {α β : Type} {f g : α → Option β} : ∀ {l : List α}, (∀ a ∈ l, f a = g a) → l.filterMap f = l.filterMap g
  | [], _ => rfl
  | a :: l, h => by
    rw [List.filterMap_cons, List.filterMap_cons, h a List.mem_cons_self, fm_congr fun b hb => h b (List.mem_cons_of_mem _ hb)]
theorem range_map {α β : Type} (as : List α) (f : α → β) (g : Nat → Option β) (h : ∀ i a, as[i]? = some a → g i = some (f a)) : (List.range as.length).filterMap g = as.map f := by
  apply List.ext_getElem?
  intro i
  have : (List.range as.length).filterMap g = (List.range as.length).filterMap (fun i => as[i]?.map f) := by
    apply fm_congr
    intro i hi
    have hi := List.mem_range.mp hi
    rw [h i as[i] (List.getElem?_eq_getElem hi), List.getElem?_eq_getElem hi]; rfl
  rw [this]
  clear this
  have key : ∀ as : List α, (List.range as.length).filterMap (fun i => as[i]?.map f) = as.map f := by
    intro as
    induction as with
    | nil => rfl
    | cons a as ih =>
      rw [List.length_cons, List.range_succ_eq_map, List.filterMap_cons, List.filterMap_map]
      simp only [List.getElem?_cons_zero, Option.map_some, List.map_cons]
      rw [← ih]
      rfl
  rw [key]
theorem range_filter {α β : Type} (as : List α) (p : α → Bool) (f : α → β) (g : Nat → Option β) (h : ∀ i a, as[i]? = some a → g i = if p a then some (f a) else none) : (List.range as.length).filterMap g = (as.filter p).map f := by
  have : (List.range as.length).filterMap g = (List.range as.length).filterMap (fun i => as[i]?.bind fun a => if p a then some (f a) else none) := by
    apply fm_congr
    intro i hi
    have hi := List.mem_range.mp hi
    rw [h i as[i] (List.getElem?_eq_getElem hi), List.getElem?_eq_getElem hi]; rfl
  rw [this]
  clear this h
  induction as with
  | nil => rfl
  | cons a as ih =>
    rw [List.length_cons, List.range_succ_eq_map, List.filterMap_cons, List.filterMap_map]
    simp only [List.getElem?_cons_zero, Option.bind_some]
    have e : (fun i => (a :: as)[i]?.bind fun a => if p a then some (f a) else none) ∘ Nat.succ = (fun i => as[i]?.bind fun a => if p a then some (f a) else none) := by
      funext i; simp
    rw [e, ih]
    by_cases hp : p a = true
    · simp [hp]
    · simp [hp]
abbrev Sb (Γ : Ctx) (j : Nat) (y : Im) : Ctx := (Γ.set j none).set j (some (im y.R y.a))
theorem LV.lcL0 (f : α → γ) (hi : IV X b Γ (.Name n np) iter as.length (IL R as)) (nd : X.N.Nodup) (ok : blkC X.N X.env.scope scope [(n, j)] = true) (hm : as.length ≤ 100000)
    (he : ∀ (b' : Bs) (i : Nat) (a : α) s H0 C cl fp, b'.B = b.B → as[i]? = some a → EV (X.blk s H0 scope (compEnvC scope cl C X.env) fp) b' (Sb Γ j (mk R a)) elt (im S (f a)))
    (hg : ∀ (s : Shared) (H0 : Hp) (C : Addr) (cl : List (Str × Addr)) (fp : List Addr), PG (X.blk s H0 scope (compEnvC scope cl C X.env) fp) (.Name n np) (gName j)) (hc : X.calm = true := by rfl) (hf : ∀ x, foldedSetIterable iter X.env x = pure x := by intro _; rfl) :
    LV X b Γ (.ListComp elt [⟨.Name n np, iter, [], 0⟩] scope pos) (ow S (as.map f)) := by
  have h := LV.lcG (X := X) (elt := elt) (pos := pos) (S := S) (fun i => as[i]?.map f) (tt := tYes) hi nd ok hm (fun _ _ _ _ _ => pts_nil) (fun b' i y hb hi hy => by
      obtain ⟨a, h1, rfl⟩ := hy
      rw [h1]; exact TvS.yes) (fun b' i y s H0 C cl fp z hb hi hy hz => by
      obtain ⟨a, h1, rfl⟩ := hy
      rw [h1] at hz
      cases hz
      exact he b' i a s H0 C cl fp hb h1) hg hc hf
  rwa [range_map as f _ (fun i a h => by rw [h]; rfl)] at h
theorem LV.lcL1 {tst : Expr} (p : α → Bool) (f : α → γ) (hi : IV X b Γ (.Name n np) iter as.length (IL R as)) (nd : X.N.Nodup) (ok : blkC X.N X.env.scope scope [(n, j)] = true) (hm : as.length ≤ 100000)
    (ht : ∀ (b' : Bs) (i : Nat) (a : α) s H0 C cl fp, b'.B = b.B → as[i]? = some a → TV (X.blk s H0 scope (compEnvC scope cl C X.env) fp) b' (Sb Γ j (mk R a)) tst (p a))
    (he : ∀ (b' : Bs) (i : Nat) (a : α) s H0 C cl fp, b'.B = b.B → as[i]? = some a → p a = true → EV (X.blk s H0 scope (compEnvC scope cl C X.env) fp) b' (Sb Γ j (mk R a)) elt (im S (f a)))
    (hg : ∀ (s : Shared) (H0 : Hp) (C : Addr) (cl : List (Str × Addr)) (fp : List Addr), PG (X.blk s H0 scope (compEnvC scope cl C X.env) fp) (.Name n np) (gName j)) (hc : X.calm = true := by rfl) (hf : ∀ x, foldedSetIterable iter X.env x = pure x := by intro _; rfl) :
    LV X b Γ (.ListComp elt [⟨.Name n np, iter, [tst], 0⟩] scope pos) (ow S ((as.filter p).map f)) := by
  have h := LV.lcG (X := X) (elt := elt) (pos := pos) (S := S) (fun i => as[i]?.bind fun a => if p a then some (f a) else none) hi nd ok hm (fun _ _ _ _ _ => pts_one pt_wb) (fun b' i y hb hi hy => by
      obtain ⟨a, h1, rfl⟩ := hy
      have q := ht b' i a
      rw [h1, Option.bind_some]
      have e : (if p a then some (f a) else none).isSome = p a := by cases p a <;> rfl
      rw [e]
      exact TvS.blk fun s H0 C cl fp => q s H0 C cl fp hb h1) (fun b' i y s H0 C cl fp z hb hi hy hz => by
      obtain ⟨a, h1, rfl⟩ := hy
      rw [h1, Option.bind_some] at hz
      by_cases hp : p a = true
      · rw [if_pos hp] at hz
        cases hz
        exact he b' i a s H0 C cl fp hb h1 hp
      · rw [if_neg hp] at hz; cases hz) hg hc hf
  rwa [range_filter as p f _ (fun i a h => by rw [h]; rfl)] at h
theorem LV.lcR1 {tst : Expr} (p : Nat → Bool) (f : Nat → γ) (hi : IV X b Γ (.Name n np) iter m IRz) (nd : X.N.Nodup) (ok : blkC X.N X.env.scope scope [(n, j)] = true) (hm : m ≤ 100000)
    (ht : ∀ b' i s H0 C cl fp, b'.B = b.B → i < m → TV (X.blk s H0 scope (compEnvC scope cl C X.env) fp) b' (Sb Γ j (mk rI (i : Int))) tst (p i))
    (he : ∀ b' i s H0 C cl fp, b'.B = b.B → i < m → p i = true → EV (X.blk s H0 scope (compEnvC scope cl C X.env) fp) b' (Sb Γ j (mk rI (i : Int))) elt (im S (f i)))
    (hg : ∀ (s : Shared) (H0 : Hp) (C : Addr) (cl : List (Str × Addr)) (fp : List Addr), PG (X.blk s H0 scope (compEnvC scope cl C X.env) fp) (.Name n np) (gName j)) (hc : X.calm = true := by rfl) (hf : ∀ x, foldedSetIterable iter X.env x = pure x := by intro _; rfl) :
    LV X b Γ (.ListComp elt [⟨.Name n np, iter, [tst], 0⟩] scope pos) (ow S (((List.range m).filter p).map f)) := by
  have h := LV.lcG (X := X) (elt := elt) (pos := pos) (S := S) (fun i => if p i then some (f i) else none) hi nd ok hm (fun _ _ _ _ _ => pts_one pt_wb) (fun b' i y hb hi hy => by
      have hy : y = mk rI (i : Int) := hy
      subst hy
      have e : (if p i then some (f i) else none).isSome = p i := by cases p i <;> rfl
      rw [e]
      exact TvS.blk fun s H0 C cl fp => ht b' i s H0 C cl fp hb hi) (fun b' i y s H0 C cl fp z hb hi hy hz => by
      have hy : y = mk rI (i : Int) := hy
      subst hy
      by_cases hp : p i = true
      · rw [if_pos hp] at hz
        cases hz
        exact he b' i s H0 C cl fp hb hi hp
      · rw [if_neg hp] at hz; cases hz) hg hc hf
  have e : (List.range m).filterMap (fun i => if p i then some (f i) else none) = ((List.range m).filter p).map f := by
    induction List.range m with
    | nil => rfl
    | cons a r ih =>
      rw [List.filterMap_cons, List.filter_cons, ih]
      by_cases hp : p a = true
      · simp [hp]
      · simp [hp]
  rwa [e] at h
end
end Lg

namespace Lg
open PySem L2 Evl PyProof.Rows
/-! ### promises -/
inductive Rs where
  | ok (s : Sl)
  | err (C : Addr)
/-- from data to a result or an error of an own class -/
def spX {ι : Type} (A : ι → List Im) (pre : ι → Prop) (res : ι → Rs) : Sp := fun vs H Q E => ∃ (i : ι) (F : Hp), Ex F H ∧ Ims F vs (A i) ∧ pre i ∧
  (∀ s, res i = .ok s → ∀ v F' H' l', Gw F H F' H' → s.P F' H' v l' → (∀ a ∈ l', H a = none ∧ F' a = none) → Q v H') ∧ (∀ C, res i = .err C → ∀ H', Ex H H' → E (.ref C) none H')
/-- __init__: the new instance first; what it holds behind is told by S -/
def spI {ι β : Type} (C : Addr) (A : ι → List Im) (pre : ι → Prop) (S : Rl β) (res : ι → Except Addr β) : Sp := fun vs H Q E => ∃ (i : ι) (F H0 : Hp) (x dx : Addr) (vs' : List V), vs = .ref x :: vs' ∧ H0 x = none ∧ H0 dx = none ∧ dx ≠ x ∧ H = upd (upd H0 dx (.own x)) x (.ins C dx []) ∧ Ex F H0 ∧ Ims F vs' (A i) ∧ pre i ∧
  (∀ y, res i = .ok y → ∀ F' H', Gw F H0 F' H' → S.r F' (.ref x) y → Q .non H') ∧ (∀ C', res i = .error C' → ∀ H', Ex H0 H' → E (.ref C') none H')
section
variable {X : Cx} {CX : CXT} {k : Nat} {f C : Addr} {fd : FuncData} {ps : List Str} {sp : Sp} {E : L2.St → XK} {x m : Str} {p pos apos : Pos} {e o : Expr} {es : List Expr} {ta : TE} {t : TA}
def tMakeS (C : Addr) (sp : Sp) (E : L2.St → XK) (t : TA) : TE := fun σ H Q => t σ H fun vs H1 => ∀ x dx, H1 x = none → H1 dx = none → dx ≠ x → sp (.ref x :: vs) (upd (upd H1 dx (.own x)) x (.ins C dx [])) (fun v H2 => v = .non ∧ Q (.ref x) H2) (E σ)
theorem pe_makeS (M : Mk X.K C f) (F : FnOk X.prog X.w X.K X.mg X.base CX k f fd ps sp) (hr : Room (k + 1) X.A) (hg : Gl X x) (hm : X.mg x = some (.ref C)) (hb : Binds X.K fd ps []) (hx : ∀ σ, PassesAt CX X σ (E σ))
    (ha : PA X (e :: es) t) (hdb : (x == ("__debug__" : Str)) = false := by decide) (he : starEach (e :: es) X.env = (false, eval e X.env) :: starEach es X.env := by rfl) (hpl : (backTo pos (starEach es X.env)).any (·.1) = false := by rfl) :
    PE X (.Call (.Name x p) (e :: es) [] pos) (tMakeS C sp E t) := by
  refine ⟨fun pins s σ H Q I h => ?_⟩
  refine wpAny_Call_Name_kw (ld_glob I hg hm ?_ hdb)
  refine PySem.W.callWith_K (h₀ := X.base) I.ok.mod.kin M.kp (thn (ha.run pos pins s σ H _ I h) fun us s1 ⟨vs, H1, I1, r, q⟩ => ⟨I1.kIn, ?_⟩) he hpl
  have hq := q (s1.heap.objs.size + 1) s1.heap.objs.size (I1.hok.fresh (Nat.le_succ _)) (I1.hok.fresh (Nat.le_refl _)) (Nat.ne_of_lt (Nat.lt_succ_self _))
  have I2 := Inv.made (C := C) I1
  have r2 : Vals (V.ref (s1.heap.objs.size + 1) :: vs) (Value.ref (s1.heap.objs.size + 1) :: us) := .cons rfl r
  have hl : (Value.ref (s1.heap.objs.size + 1) :: us).length = ps.length := by
    rw [← r2.length]; exact F.len _ _ _ _ hq
  have hbb := hb { s1 with heap := (s1.heap.push { cls := .type "dict", data := .dict #[] }).push (PySem.W.instObj C s1.heap.objs.size) } (Value.ref (s1.heap.objs.size + 1) :: us) I2.kIn (by rw [List.append_nil]; exact hl)
  rw [List.append_nil] at hbb
  refine wpAny_call (make_map (f := f) I1.kIn M.makes M.init (beq_iff_eq.mp M.fn) (codeAny_mono (F.run _ X.stack _ _ ⟨Value.ref (s1.heap.objs.size + 1) :: us, []⟩ (Value.ref (s1.heap.objs.size + 1) :: us) _ _ (E σ) (hr.make C us [])
    (I2.env0.make C us []) hbb r2 hq) fun r s' hq' => ?_))
  cases r with
  | error e => exact hx σ pins _ _ e s' I2 hq'
  | ok fl =>
    cases fl with
    | ret u =>
      obtain ⟨v, H', I3, rv, ev, q3⟩ := I2.after hq'
      subst ev
      exact ⟨rv, ⟨V.ref (s1.heap.objs.size + 1), H', I3, rfl, q3⟩⟩
    | next => exact False.elim hq'
    | brk => exact False.elim hq'
    | cont => exact False.elim hq'
def tMethX (C : Addr) (m : Str) (sp : Sp) (E : L2.St → XK) (ta : TE) (t : TA) : TE := fun σ H Q => ta σ H fun x H1 => ∃ a dx fs, x = .ref a ∧ H1 a = some (.ins C dx fs) ∧ fs.lookup m = none ∧ t σ H1 fun vs H2 => sp (x :: vs) H2 Q (E σ)
theorem pe_methX {pl : Sem Bool} (he : PE X o ta) (c : Cls X.K C) (hm : Meth X.K C m f) (F : FnOk X.prog X.w X.K X.mg X.base CX k f fd ps sp) (hr : Room k X.A) (hb : Binds X.K fd ps []) (hx : ∀ σ, PassesAt CX X σ (E σ)) (ha : PA X (e :: es) t)
    (hst : starEach (e :: es) X.env = (false, eval e X.env) :: starEach es X.env := by rfl) (hpl : (backTo pos (starEach es X.env)).any (·.1) = false := by rfl)
    (ht : eval (.Call (.Attribute o m apos) (e :: es) [] pos) X.env = (do
      let ov ← eval o X.env
      standAt apos.atName
      let (f, first) ← holding [ov] (getMethod ov m pl)
      callWith pos f first (backTo pos (starEach (e :: es) X.env)) (backToKw pos (keywordEach [] X.env))) := by rfl) :
    PE X (.Call (.Attribute o m apos) (e :: es) [] pos) (tMethX C m sp E ta t) := by
  refine ⟨fun pins s σ H Q I h => ?_⟩
  refine PySem.W.methodCall_KW (pl := pl) (thn (he.run pins s σ H _ I h) fun u s1 ⟨x, H1, I1, rx, a, dx, fs, ex, ea, l, q⟩ => ?_) ht
  subst ex
  obtain rfl : u = Value.ref a := rx
  refine getmeth_ok I1 ea c hm l ?_
  refine PySem.W.callWith_K (first := [.ref a]) (h₀ := X.base) I.ok.mod.kin hm.kp (thn (ha.run pos pins s1 σ H1 _ I1 q) fun us s2 ⟨vs, H2, I2, r, q2⟩ => ⟨I2.kIn, ?_⟩) hst hpl
  exact run_fnS (us := .ref a :: us) (vs := .ref a :: vs) F hr hb (hx σ) I2 (.cons rfl r) q2
theorem pe_methX0 {pl : Sem Bool} (he : PE X o ta) (c : Cls X.K C) (hm : Meth X.K C m f) (F : FnOk X.prog X.w X.K X.mg X.base CX k f fd ps sp) (hr : Room k X.A) (hb : Binds X.K fd ps []) (hx : ∀ σ, PassesAt CX X σ (E σ))
    (ht : eval (.Call (.Attribute o m apos) [] [] pos) X.env = (do
      let ov ← eval o X.env
      standAt apos.atName
      let (f, first) ← holding [ov] (getMethod ov m pl)
      callWith pos f first (backTo pos (starEach [] X.env)) (backToKw pos (keywordEach [] X.env))) := by rfl) :
    PE X (.Call (.Attribute o m apos) [] [] pos) (tMethX C m sp E ta tNil) := by
  refine ⟨fun pins s σ H Q I h => ?_⟩
  refine PySem.W.methodCall_KW (pl := pl) (thn (he.run pins s σ H _ I h) fun u s1 ⟨x, H1, I1, rx, a, dx, fs, ex, ea, l, q⟩ => ?_) ht
  subst ex
  obtain rfl : u = Value.ref a := rx
  refine getmeth_ok I1 ea c hm l ?_
  exact PySem.W.callWith_K0 (first := [.ref a]) I1.kIn hm.kp (run_fnS (us := [.ref a]) (vs := [.ref a]) F hr hb (hx σ) I1 (.cons rfl .nil) q)
end
/-- what is known of a def, a method, a class that is made -/
structure Kn (P : Program) (w : World) (K : PySem.W.Frag) (mg : Str → Option Value) (base : Heap) (k : Nat) (x : Str) (ps : List Str) (sp : Sp) : Prop where
  ex : ∃ f fd, FnOk P w K mg base (L2N.CX P w) k f fd ps sp ∧ mg x = some (.ref f) ∧ PySem.W.keepIn K (.ref f) = true ∧ Binds K fd ps []
structure KnM (P : Program) (w : World) (K : PySem.W.Frag) (mg : Str → Option Value) (base : Heap) (k : Nat) (C : Addr) (m : Str) (ps : List Str) (sp : Sp) : Prop where
  ex : ∃ f fd, FnOk P w K mg base (L2N.CX P w) k f fd ps sp ∧ Meth K C m f ∧ Binds K fd ps []
  cl : Cls K C
structure KnI (P : Program) (w : World) (K : PySem.W.Frag) (mg : Str → Option Value) (base : Heap) (k : Nat) (C : Addr) (x : Str) (ps : List Str) (sp : Sp) : Prop where
  ex : ∃ f fd, FnOk P w K mg base (L2N.CX P w) k f fd ps sp ∧ Mk K C f ∧ mg x = some (.ref C) ∧ Binds K fd ps []
/-- at what Γ tells, an error of the class C is wished for -/
def Xw (b : Bs) (Γ : Ctx) (W : WX) (C : Addr) : Prop := ∀ σ F H, Sg b Γ σ F H → W (.ref C) none σ H
theorem Ex.gw {F H H' : Hp} (e : Ex F H) (h : Ex H H') : Gw F H F H' := ⟨Ex.refl F, h, e.trans h, fun _ h _ => h⟩
section
variable {X : Cx} {b : Bs} {Γ : Ctx} {k : Nat} {x m : Str} {ps : List Str} {ι β : Type} {A : ι → List Im} {pre : ι → Prop} {res : ι → Rs} {i : ι} {s : Sl} {e o : Expr} {es : List Expr} {p pos apos : Pos} {W : WX} {C : Addr}
theorem EV.callR (T : Kn X.prog X.w X.K X.mg X.base k x ps (spX A pre res)) (hr : Room k X.A) (tk : L2N.Takes X W) (ha : AV X b Γ (e :: es) (A i)) (hp : pre i) (h1 : ∀ s', res i = .ok s' → s' = s) (h2 : ∀ C, res i = .err C → Xw b Γ W C) (hg : Gl X x := by rfl)
    (hdb : (x == ("__debug__" : Str)) = false := by decide) (he : starEach (e :: es) X.env = (false, eval e X.env) :: starEach es X.env := by rfl) (hpl : (backTo pos (starEach es X.env)).any (·.1) = false := by rfl) : EV X b Γ (.Call (.Name x p) (e :: es) [] pos) s := by
  obtain ⟨ta, p1, p2⟩ := ha
  obtain ⟨f, fd, F, hm, hk, hb⟩ := T.ex
  refine EV.of (pe_callS F hr hg hm hk hb (fun σ => L2N.passAt tk σ) p1 hdb he hpl) fun σ F H l g d Q q => p2 σ F H l g d _ fun vs F1 H1 w hv => ?_
  refine ⟨i, F1, w.e, hv, hp, fun s' hs v F' H' l' w' p f => ?_, fun C hC H' h => ?_⟩
  · rw [h1 s' hs] at p
    exact q v F' H' l' (w.trans w') p fun a ha => ⟨ex_none w.h (f a ha).1, (f a ha).2⟩
  · have w2 := w.trans (Ex.gw w.e h)
    exact h2 C hC σ F1 H' ⟨l, g.grow w2, d.grow g.t w2⟩
theorem EV.call (T : Kn X.prog X.w X.K X.mg X.base k x ps (spX A pre res)) (hr : Room k X.A) (tk : L2N.Takes X W) (ha : AV X b Γ (e :: es) (A i)) (hp : pre i) (h1 : res i = .ok s) (hg : Gl X x := by rfl)
    (hdb : (x == ("__debug__" : Str)) = false := by decide) (he : starEach (e :: es) X.env = (false, eval e X.env) :: starEach es X.env := by rfl) (hpl : (backTo pos (starEach es X.env)).any (·.1) = false := by rfl) : EV X b Γ (.Call (.Name x p) (e :: es) [] pos) s :=
  EV.callR T hr tk ha hp (fun s' h => by rw [h1] at h; cases h; rfl) (fun C h => by rw [h1] at h; cases h) hg hdb he hpl
/-- o.m() -/
theorem EV.meth0 {β : Type} {R : Rl β} {y : β} {pl : Sem Bool} (T : KnM X.prog X.w X.K X.mg X.base k C m ps (spX A pre res)) (hr : Room k X.A) (tk : L2N.Takes X W) (ho : EV X b Γ o (im R y)) (hR : ∀ F v, R.r F v y → ∃ a dx fs, v = .ref a ∧ F a = some (.ins C dx fs) ∧ fs.lookup m = none) (hA : A i = [mk R y]) (hp : pre i) (h1 : res i = .ok s)
    (ht : eval (.Call (.Attribute o m apos) [] [] pos) X.env = (do
      let ov ← eval o X.env
      standAt apos.atName
      let (f, first) ← holding [ov] (getMethod ov m pl)
      callWith pos f first (backTo pos (starEach [] X.env)) (backToKw pos (keywordEach [] X.env))) := by rfl) : EV X b Γ (.Call (.Attribute o m apos) [] [] pos) s := by
  obtain ⟨f, fd, F, hm, hb⟩ := T.ex
  refine EV.of (pe_methX0 pe_w T.cl hm F hr hb (fun σ => L2N.passAt tk σ) ht) fun σ F H l g d Q q => ho σ F H l g d _ fun v F1 H1 l1 w ⟨_, hv⟩ _ => ?_
  obtain ⟨a, dx, fs, rfl, ha, hl⟩ := hR F1 v hv
  refine ⟨a, dx, fs, rfl, w.e a _ ha, hl, i, F1, w.e, by rw [hA]; exact .cons hv .nil, hp, fun s' hs v F' H' l' w' p f => ?_, fun C hC H' h => ?_⟩
  · rw [h1] at hs
    cases hs
    exact q v F' H' l' (w.trans w') p fun a ha => ⟨ex_none w.h (f a ha).1, (f a ha).2⟩
  · rw [h1] at hC; cases hC
/-- C(..) -/
theorem EV.make {S : Rl β} {y : β} {ri : ι → Except Addr β} (T : KnI X.prog X.w X.K X.mg X.base k C x ps (spI C A pre S ri)) (hr : Room (k + 1) X.A) (tk : L2N.Takes X W) (ha : AV X b Γ (e :: es) (A i)) (hp : pre i) (h1 : ∀ y', ri i = .ok y' → y' = y) (h2 : ∀ C, ri i = .error C → Xw b Γ W C) (hg : Gl X x := by rfl)
    (hdb : (x == ("__debug__" : Str)) = false := by decide) (he : starEach (e :: es) X.env = (false, eval e X.env) :: starEach es X.env := by rfl) (hpl : (backTo pos (starEach es X.env)).any (·.1) = false := by rfl) : EV X b Γ (.Call (.Name x p) (e :: es) [] pos) (im S y) := by
  obtain ⟨ta, p1, p2⟩ := ha
  obtain ⟨f, fd, F, hM, hm, hb⟩ := T.ex
  refine EV.of (pe_makeS hM F hr hg hm hb (fun σ => L2N.passAt tk σ) p1 hdb he hpl) (EvS.mki fun σ F H l g d Q q => p2 σ F H l g d _ fun vs F1 H1 w hv => ?_)
  refine fun x dx hx hdx ne => ⟨i, F1, H1, x, dx, vs, rfl, hx, hdx, ne, rfl, w.e, hv, hp, fun y' hy F' H' w' p => ?_, fun C hC H' h => ?_⟩
  · rw [h1 y' hy] at p
    exact ⟨rfl, q _ F' H' (w.trans w') p⟩
  · have w2 := w.trans (Ex.gw w.e h)
    exact h2 C hC σ F1 H' ⟨l, g.grow w2, d.grow g.t w2⟩
end
/-- a def by its body, for any way of telling what it lets out -/
theorem okN {CX : CXT} {P : Program} {w : World} {K : PySem.W.Frag} {mg : Str → Option Value} {base : Heap} {x qual : Str} {st : Stmt} {f : Addr} {fd : FuncData} {N ps : List Str} {k : Nat} {sp : Sp} (F : Fun K x qual st f fd) (S : FnScope N ps (defScope st)) (hl : ∀ vs H Q E, sp vs H Q E → vs.length = ps.length)
    (hb : ∀ (cdv : Value) (A : Around) (outer : List Env) (s : Shared) (H : Hp) (vs : List V) (Q : VK) (E : XK), Room k (A.deeper (envOfC qual (defScope st) s.heap.objs.size f cdv)) → sp vs H Q E → ∃ t, PSs (cxOf CX P w K mg base N qual (defScope st) f cdv A outer s H E) (defBody st) t ∧ t { nx := fun _ H' => Q .non H', rt := Q } (L2.start N vs) H) :
    FnOk P w K mg base CX (k + 1) f fd ps sp := by
  obtain ⟨oc, od, kV, dc, pm, an, cdv, ct, sl, e, lk, hcd⟩ := F.ex
  rw [e] at *
  exact fn_of lk hcd S hl (hb cdv)
/-! ### a def keeps its promise -/
def c0 (xs : List Im) (n : Nat) : Ctx := xs.map (fun x => some x.sl) ++ List.replicate n none
theorem SgL.args {F H : Hp} : ∀ {vs : List V} {xs : List Im} (n : Nat), Ims F vs xs → SgL F H (c0 xs n) (vs.map some ++ List.replicate n none) []
  | _, _, n, .nil => by
    show SgL F H (List.replicate n none) (List.replicate n none) []
    induction n with
    | zero => rfl
    | succ n ih => exact ih
  | _, _, n, .cons h t => ⟨_, [], [], rfl, rfl, ⟨rfl, h⟩, SgL.args n t⟩
section
variable {P : Program} {w : World} {K : PySem.W.Frag} {mg : Str → Option Value} {base : Heap} {x qual : Str} {st : Stmt} {f : Addr} {fd : FuncData} {N ps : List Str} {k : Nat} {ι β : Type} {A : ι → List Im} {pre : ι → Prop} {res : ι → Rs}
theorem fn_ok (F : Fun K x qual st f fd) (S : FnScope N ps (defScope st)) (hA : ∀ i, (A i).length = ps.length)
    (body : ∀ (i : ι) (B : Bs) (cdv : Value) (A' : Around) (outer : List Env) (s : Shared) (H : Hp) (E : XK), pre i → Room k (A'.deeper (envOfC qual (defScope st) s.heap.objs.size f cdv)) → (∀ C, res i = .err C → ∀ H', Ex B.B H' → E (.ref C) none H') →
      HT (cxOf (L2N.CX P w) P w K mg base N qual (defScope st) f cdv A' outer s H E) B ⟨fun _ => res i = .ok (im rU ()), fun s => res i = .ok s, fun _ => False, fun _ => False⟩ (c0 (A i) (N.length - ps.length)) (defBody st)) :
    FnOk P w K mg base (L2N.CX P w) (k + 1) f fd ps (spX A pre res) := by
  refine okN F S (fun vs H Q E ⟨i, F, _, hv, _⟩ => by rw [hv.len, hA i]) fun cdv A' outer s H vs Q E hr ⟨i, F0, hF, hv, hp, h1, h2⟩ => ⟨_, pss_w, ?_⟩
  have hn : vs.length = ps.length := by rw [hv.len, hA i]
  have g0 : Sg ⟨F0, H⟩ (c0 (A i) (N.length - ps.length)) (L2.start N vs) F0 H := ⟨[], by
    unfold L2.start
    rw [hn]
    exact SgL.args _ hv, Ex.refl _, Ex.refl _, hF, fun _ h _ => h, List.nodup_nil, fun _ h => (nomatch h), fun _ h => nomatch h⟩
  refine wS.mono (body i ⟨F0, H⟩ cdv A' outer s H E hp hr h2 _ F0 H g0) (fun σ' H' h => ?_) (fun v H' h => ?_) (fun _ _ h => ?_) (fun _ _ h => ?_)
  · obtain ⟨Γ, F', ⟨l, _, d⟩, h⟩ := h
    exact h1 _ h .non F' H' [] ⟨d.ef, d.eb, d.e, fun a q1 q2 => d.k a q1 q2⟩ ⟨rfl, rfl⟩ fun _ h => nomatch h
  · obtain ⟨s', F', l, p, d, h⟩ := h
    exact h1 _ h v F' H' l ⟨d.ef, d.eb, d.e, fun a q1 q2 => d.k a q1 q2⟩ p fun a ha => ⟨d.ob a ha, d.of a ha⟩
  · obtain ⟨_, _, _, h⟩ := h; exact h.elim
  · obtain ⟨_, _, _, h⟩ := h; exact h.elim
end
end Lg

namespace Lg
open PySem L2 Evl PyProof.Rows
/-! ### objects of one's own classes -/
inductive Fls (F : Hp) : List (Str × V) → List (Str × Im) → Prop
  | nil : Fls F [] []
  | cons {f : Str} {v : V} {x : Im} {ws : List (Str × V)} {xs : List (Str × Im)} : x.R.r F v x.a → Fls F ws xs → Fls F ((f, v) :: ws) ((f, x) :: xs)
theorem Fls.m {F F' : Hp} (e : Ex F F') : ∀ {ws xs}, Fls F ws xs → Fls F' ws xs
  | _, _, .nil => .nil
  | _, _, .cons h t => .cons (Rl.m _ e h) (t.m e)
theorem Fls.look {F : Hp} : ∀ {ws : List (Str × V)} {xs : List (Str × Im)} {f : Str}, Fls F ws xs → match xs.lookup f with | none => ws.lookup f = none | some x => ∃ v, ws.lookup f = some v ∧ x.R.r F v x.a
  | _, _, f, .nil => rfl
  | _, _, f, .cons (f := g) (v := v) (x := x) h t => by
    rw [List.lookup_cons, List.lookup_cons]
    cases f == g with
    | true => exact ⟨v, rfl, h⟩
    | false => exact t.look
theorem Fls.len {F : Hp} : ∀ {ws xs}, Fls F ws xs → ws.length = xs.length
  | _, _, .nil => rfl
  | _, _, .cons _ t => by simp [t.len]
/-- an instance whose fields are data -/
def rObj {α : Type} (C : Addr) (fs : α → List (Str × Im)) : Rl α :=
  ⟨fun F v x => ∃ a dx ws, v = .ref a ∧ F a = some (.ins C dx ws) ∧ Fls F ws (fs x), fun {F F' v x} e ⟨a, dx, ws, h1, h2, h3⟩ => ⟨a, dx, ws, h1, e a _ h2, h3.m e⟩⟩
/-- the instance in the making -/
def ob (C a : Addr) (fs : List (Str × Im)) : Sl where
  P := fun F H v l => ∃ dx ws, v = .ref a ∧ l = [a] ∧ H a = some (.ins C dx ws) ∧ Fls F ws fs
  m := fun e k ⟨dx, ws, h1, h2, h3, h4⟩ => ⟨dx, ws, h1, h2, by rw [k a (by rw [h2]; exact List.mem_singleton.mpr rfl)]; exact h3, h4.m e⟩
  t := fun ⟨dx, ws, h1, h2, h3, h4⟩ c hc => by
    rw [h2] at hc
    rw [List.mem_singleton.mp hc, h3]
    exact fun z => nomatch z
  d := fun ⟨dx, ws, h1, h2, h3, h4⟩ => by rw [h2]; simp
def putI (f : Str) (x : Im) : List (Str × Im) → List (Str × Im)
  | [] => [(f, x)]
  | (g, y) :: r => if g = f then (f, x) :: r else (g, y) :: putI f x r
theorem Fls.put {F : Hp} {f : Str} {v : V} {x : Im} (h : x.R.r F v x.a) : ∀ {ws xs}, Fls F ws xs → Fls F (putF f v ws) (putI f x xs)
  | _, _, .nil => .cons h .nil
  | _, _, .cons (f := g) (v := u) (ws := ws) (x := y) (xs := xs) h1 t => by
    unfold putF putI
    by_cases z : g = f
    · rw [if_pos z, if_pos z]; first | exact .cons h t | (subst z; exact .cons h t)
    · rw [if_neg z, if_neg z]; exact .cons h1 (Fls.put h t)
section
variable {X : Cx} {b : Bs} {D : EndC} {Γ : Ctx} {α β : Type} {R : Rl α} {S : Rl β} {x : α} {y : β} {C : Addr} {fs : α → List (Str × Im)} {fl : List (Str × Im)} {f n : Str} {e : Expr} {pos np tp : Pos} {rest : List Stmt} {i : Nat}
theorem EV.fld (hc : Cls X.K C) (h : EV X b Γ e (im (rObj C fs) x)) (hl : (fs x).lookup f = some (mk S y)) (hn : NoAttr X.K C f) (hb : attributeBase e f X.env (eval e X.env) = eval e X.env := by rfl) : EV X b Γ (.Attribute e f pos) (im S y) :=
  EV.of (pe_fld pe_w hb) (EvS.mki fun σ F H l g d Q q => h σ F H l g d _ fun v F1 H1 l1 w ⟨_, a, dx, ws, h1, h2, h3⟩ _ => by
    have k := h3.look (f := f)
    rw [hl] at k
    obtain ⟨u, k1, k2⟩ := k
    exact ⟨a, C, dx, ws, u, h1, w.e a _ h2, hc, hn, k1, q u F1 H1 w k2⟩)
theorem rObj.no {F : Hp} {v : V} {m : Str} (h : (rObj C fs).r F v x) (hm : (fs x).lookup m = none) : ∃ a dx ws, v = .ref a ∧ F a = some (.ins C dx ws) ∧ ws.lookup m = none := by
  obtain ⟨a, dx, ws, h1, h2, h3⟩ := h
  have k := h3.look (f := m)
  rw [hm] at k
  exact ⟨a, dx, ws, h1, h2, k⟩
/-- self.f = e, in __init__ -/
theorem HT.fld {a : Addr} (hc : Cls X.K C) (i : Nat) (hΓ : Γ[i]? = some (some (ob C a fl))) (he : EV X b Γ e (im S y)) (hn : NoAttr X.K C f) (hz : fl.length < 1000) (k : HT X b D (Γ.set i (some (ob C a (putI f (mk S y) fl)))) rest) (hN : X.N[i]? = some n := by rfl) (hv : Vis X.env.scope n := by first | exact Or.inl rfl | exact Or.inr (Or.inl rfl) | exact Or.inr (Or.inr rfl))
    (hd : (n == ("__debug__" : Str)) = false := by decide) (hcd : (n == ("__classdict__" : Str)) = false := by decide) (hs : swapsWith e (some (.Attribute (.Name n np) f tp)) pos.line X.env = pure false := by rfl) : HT X b D Γ (.Assign [.Attribute (.Name n np) f tp] e pos :: rest) :=
  HT.step (ps_fld (pe_var hN hv hd hcd) pe_w hs) fun σ F H ⟨l, g, d⟩ => he σ F H l g d _ fun v F1 H1 l1 w1 p1 _ => by
    have g1 := g.grow w1
    have d1 := d.grow g.t w1
    obtain ⟨u, l2, h1, ⟨dx, ws, rfl, rfl, h4, h5⟩, h6, h7⟩ := g1.mod d1.nd hΓ
    have ha := h6 a (List.mem_singleton.mpr rfl)
    refine ⟨_, h1, a, C, dx, ws, rfl, h4, hc, hn, by rw [h5.len]; exact hz, k σ F1 _ ⟨l, h7 _ _ (fun c hc => upd_ne fun z => hc (List.mem_singleton.mpr z)) ⟨dx, _, rfl, rfl, upd_same, Fls.put (x := mk S y) p1.2 h5⟩, d1.ef, Ex.mut d1.eb (d1.ob a ha), Ex.mut d1.e (d1.of a ha), d1.k, d1.nd, d1.of, d1.ob⟩⟩
end
section
variable {P : Program} {w : World} {K : PySem.W.Frag} {mg : Str → Option Value} {base : Heap} {x qual : Str} {st : Stmt} {f C : Addr} {fd : FuncData} {N ps : List Str} {k : Nat} {ι β : Type} {A : ι → List Im} {pre : ι → Prop} {res : ι → Except Addr β} {fs : β → List (Str × Im)}
theorem fn_init (F : Fun K x qual st f fd) (S : FnScope N ps (defScope st)) (hA : ∀ i, (A i).length + 1 = ps.length)
    (body : ∀ (i : ι) (B : Bs) (a : Addr) (cdv : Value) (A' : Around) (outer : List Env) (s : Shared) (H : Hp) (E : XK), pre i → Room k (A'.deeper (envOfC qual (defScope st) s.heap.objs.size f cdv)) → (∀ C', res i = .error C' → ∀ H', Ex B.B H' → E (.ref C') none H') →
      HT (cxOf (L2N.CX P w) P w K mg base N qual (defScope st) f cdv A' outer s H E) B ⟨fun Γ => ∃ y fl, res i = .ok y ∧ Γ[0]? = some (some (ob C a fl)) ∧ fl = fs y, fun _ => False, fun _ => False, fun _ => False⟩ (some (ob C a []) :: c0 (A i) (N.length - ps.length)) (defBody st)) :
    FnOk P w K mg base (L2N.CX P w) (k + 1) f fd ps (spI C A pre (rObj C fs) res) := by
  refine okN F S (fun vs H Q E ⟨i, F, H0, a, dx, vs', e, _, _, _, _, _, hv, _⟩ => by rw [e, List.length_cons, hv.len, hA i]) fun cdv A' outer s H vs Q E hr ⟨i, F0, H0, a, dx, vs', hvs, ha, hdx, hne, hH, hF, hv, hp, h1, h2⟩ => ⟨_, pss_w, ?_⟩
  have hn : vs.length = ps.length := by rw [hvs, List.length_cons, hv.len, hA i]
  have hdn : (upd H0 dx (.own a)) a = none := by rw [upd_ne hne.symm]; exact ha
  have g0 : Sg ⟨F0, upd H0 dx (.own a)⟩ (some (ob C a []) :: c0 (A i) (N.length - ps.length)) (L2.start N vs) F0 H := ⟨[a], by
    unfold L2.start
    rw [hn, hvs]
    exact ⟨.ref a, [a], [], rfl, rfl, ⟨dx, [], rfl, rfl, by rw [hH]; exact upd_same, .nil⟩, SgL.args _ hv⟩, Ex.refl _, by rw [hH]; exact Ex.new hdn, (hF.trans (Ex.new hdx)).trans (by rw [hH]; exact Ex.new hdn), fun _ h _ => h, by simp, fun c hc => by
    rw [List.mem_singleton.mp hc]; exact ex_none hF ha, fun c hc => by rw [List.mem_singleton.mp hc]; exact hdn⟩
  refine wS.mono (body i ⟨F0, upd H0 dx (.own a)⟩ a cdv A' outer s H E hp hr (fun C' hC H' h => h2 C' hC H' ((Ex.new hdx).trans h)) _ F0 H g0) (fun σ' H' h => ?_) (fun v H' h => ?_) (fun _ _ h => ?_) (fun _ _ h => ?_)
  · obtain ⟨Γ, F', ⟨l, g, d⟩, y, fl, hy, hΓ, hfl⟩ := h
    obtain ⟨v, l1, q1, ⟨dx', ws, rfl, rfl, q4, q5⟩, q6⟩ := g.get hΓ
    have la := q6 a (List.mem_singleton.mpr rfl)
    have fa := d.of a la
    refine h1 y hy (upd F' a (.ins C dx' ws)) H' ⟨d.ef.trans (Ex.new fa), (Ex.new hdx).trans d.eb, fun c u hc => ?_, fun c z1 z2 => ?_⟩ ⟨a, dx', ws, rfl, upd_same, by rw [← hfl]; exact q5.m (Ex.new fa)⟩
    · by_cases z : c = a
      · subst z; rw [upd_same] at hc; rw [q4]; exact hc
      · rw [upd_ne z] at hc; exact d.e c u hc
    · rw [upd_ne fun z => z2 (by rw [z]; exact ha)]
      exact d.k c z1 (ex_some (Ex.new hdx) z2)
  · obtain ⟨_, _, _, _, _, h⟩ := h; exact h.elim
  · obtain ⟨_, _, _, h⟩ := h; exact h.elim
  · obtain ⟨_, _, _, h⟩ := h; exact h.elim
end
end Lg

namespace Lg
open PySem L2 Evl PyProof.Rows
/-! ### errors -/
/-- X(e), the context None -/
theorem pmk_own1N {X : Cx} {C : Addr} {bmB : List Value} {B nid iid : String} {x : Str} {e : Expr} {t : TE} {p p' : Pos} (FB : ExcBaseFacts B nid iid bmB) (hq : PySem.W.excIn X.K C bmB nid = true) (hm : X.mg x = some (.ref C)) (hk : PySem.W.keepIn X.K (.ref C) = true) (r : Raises X (.ref C)) (hg : Gl X x) (he : PE X e t)
    (hs : starEach [e] X.env = (false, eval e X.env) :: starEach [] X.env := by rfl) (hd : (x == ("__debug__" : Str)) = false := by decide) : L2N.PMk X (.Call (.Name x p) [e] [] p') (fun σ H Q => t σ H fun _ H1 => Q (.ref C) none H1) := fun pins s σ H Q I h => by
  refine wpAny_Call_Name_kw (ld_glob I hg hm (PySem.W.callWith_K (h₀ := X.base) I.ok.mod.kin hk ?_ hs (by rfl)) hd)
  rw [hs]
  refine Calls.spliced_cons (thn (he.run pins s σ H _ I h) fun u s1 ⟨v, H1, I1, r1, q1⟩ => Calls.spliced_nil ⟨I1.kIn, ?_⟩)
  obtain ⟨_, _, _, _, _, _, _, _, _, _, _, _, _, _, _, _, _, hC, hN, hni, T⟩ := exc_obj I1.kIn hq
  exact wpAny_call_exc_subT FB T hC hN hni (fun h' a hx => L2N.mk_of I1 hx r q1 (I1.hok.gone hx.new)) (by rw [sizeLine_eq]; exact (by decide : 1 ≤ 16777216))
/-- nothing is let out there -/
theorem takesN0 {X : Cx} : L2N.Takes X (fun _ _ _ _ => False) := fun _ _ ⟨_, _, _, _, _, _, _, _, _, _, _, _, _, _, _, _, z⟩ => z.elim

/-- an error class of one's own (over ValueError, no __init__ of its own) -/
structure ErrC (K : PySem.W.Frag) (mg : Str → Option Value) (x : Str) (C : Addr) : Prop where
  q : PySem.W.excIn K C [.type "ValueError", .type "Exception", .type "BaseException", .type "object"] "ValueError.__new__" = true
  g : mg x = some (.ref C)
  k : PySem.W.keepIn K (.ref C) = true
  b : PySem.W.subIn K (.ref C) (.type "BaseException") = some true
  t : PySem.W.typeIn K (.ref C) = some (.type "type")
section
variable {X : Cx} {b : Bs} {D : EndC} {Γ : Ctx} {α β : Type} {R : Rl α} {S : Rl β} {x : α} {y : β} {C CB : Addr} {f n nx : Str} {e : Expr} {pos np tp p pos' : Pos} {rest bd suite : List Stmt} {i : Nat} {s : Sl} {W Wout : WX} {bm : List Value} {B newId initId : String} {b₀ : Stmt}
theorem HT.raise (T : ErrC X.K X.mg nx C) (tk : L2N.Takes X W) (he : EV X b Γ e s) (hW : Xw b Γ W C) (hc : X.calm = true := by rfl) (hg : Gl X nx := by rfl) (hse : starEach [e] X.env = (false, eval e X.env) :: starEach [] X.env := by rfl) (hdb : (nx == ("__debug__" : Str)) = false := by decide) : HT X b D Γ (.Raise (some (.Call (.Name nx p) [e] [] pos')) none pos :: rest) :=
  HT.step (L2N.ps_raise hc tk (pmk_own1N PySem.F.excBase_ValueError T.q T.g T.k (raises_own T.b T.t) hg pe_w hse hdb)) fun σ F H ⟨l, g, d⟩ => he σ F H l g d _ fun v F' H' l' w p f => hW σ F' H' ⟨l, g.grow w, d.grow g.t w⟩
/-- try: .. except x as n: .. -/
theorem HT.tryAs (i : Nat) (hc : Names X nx (.ref CB)) (tk : L2N.Takes X Wout)
    (hb : ∀ (W : WX) (pn : List (Addr × Obj)) (xe : Value → Shared → Prop), L2N.Takes (X.tr pn xe) W → PassesOwn (model X.prog X.w) X.A X.env xe →
      (∀ (Γ' : Ctx) (C : Addr) (b' : Bs), Up b b' → PySem.W.exmOne X.K (.ref C) (.ref CB) = some true → (∀ (a : Addr) (oe : Obj) (pn : List (Addr × Obj)), L2N.Zn (.ref C) none oe → (∃ vs, oe.data = .fields vs) →
        HT (X.suite a ((a, oe) :: pn)) b ⟨fun Γ => HT X b D (Γ.set i none) rest, D.rt, fun Γ => D.bk (Γ.set i none), fun Γ => D.ct (Γ.set i none)⟩ (Γ'.set i (some (vx (.ref a)))) (b₀ :: suite)) → Xw b' Γ' W C) →
      HT (X.tr pn xe) b (D.into X b rest) Γ bd)
    (nd : X.N.Nodup) (hs : X.stack = X.env :: X.outer := by rfl) (hf : X.env.frame = some X.env.locals := by rfl) (hi : X.N[i]? = some n := by rfl) (hln : X.env.kindOf n = some .local := by rfl) :
    HT X b D Γ (.Try bd [.ExceptHandler (some (.Name nx np)) (some n) (b₀ :: suite) pos'] [] [] pos :: rest) :=
  HT.step (L2N.ps_try_as (tb := fun W D σ H => ∀ pn xe, L2N.Takes (X.tr pn xe) W → PassesOwn (model X.prog X.w) X.A X.env xe → wS (X.tr pn xe) bd D σ H) (ts := fun a cls d D σ H => ∀ oe pn, L2N.Zn cls d oe → (∃ vs, oe.data = .fields vs) → wS (X.suite a ((a, oe) :: pn)) (b₀ :: suite) D σ H)
    hs hf nd hi hln hc tk (fun W pn xe tk po => ⟨fun pins s σ H D I h => h pn xe tk po pins s I⟩) (fun a oe cls d pn hz hv => ⟨fun pins s σ H D I h => h oe pn hz hv pins s I⟩)) fun σ F H g pn xe tk2 po => by
    refine HT.into (hb _ pn xe tk2 po (fun Γ' C b' u hex hsu σ' F' H' g' => ?_) σ F H g)
    have g' := u.sg g'
    refine ⟨true, hex, fun _ a ha oe pn2 hz hv => ?_, fun z => nomatch z⟩
    have fa : F' a = none := by
      obtain ⟨l, _, d⟩ := g'
      exact ex_none d.e ha
    have back : ∀ (Q : Ctx → Prop) σ2 H2, At b (fun Γ => Q (Γ.set i none)) σ2 H2 → At b Q (σ2.set i none) H2 := fun Q σ2 H2 ⟨Γ2, F2, ⟨l, g2, d2⟩, q⟩ => by
      obtain ⟨l2, k1, k2, k3⟩ := SgL.put (o' := none) (w := none) (l' := []) trivial List.nodup_nil i g2 d2.nd (fun _ h => nomatch h)
      exact ⟨_, F2, ⟨l2, k1, d2.of_l k2 fun a ha => by
        rcases k3 a ha with z | z
        · exact ⟨d2.of a z, d2.ob a z⟩
        · cases z⟩, q⟩
    refine wS.mono (hsu a oe pn2 hz hv _ F' H' (Sg.put0 i g' ⟨rfl, rfl⟩)) (fun σ2 H2 h => ?_) (fun _ _ h => h) (fun σ2 H2 h => back _ σ2 H2 h) (fun σ2 H2 h => back _ σ2 H2 h)
    obtain ⟨Γ3, F3, g3, h3⟩ := back (fun Γ => HT X b D Γ rest) σ2 H2 h
    exact h3 _ F3 H2 g3
/-- isinstance(e, K) of the error that a suite holds -/
theorem EV.isE {a D C' : Addr} {oe : Obj} {pn : List (Addr × Obj)} {c : Bool} {cx : Str} {p1 p2 p3 : Pos} (E : ExcC X.K D) (hz : L2N.Zn (.ref D) none oe) (hf : ∃ vs, oe.data = .fields vs) (i : Nat) (hΓ : Γ[i]? = some (some (vx (.ref a)))) (hm : X.mg "isinstance" = none) (hC : X.mg cx = some (.ref C')) (hk : PySem.W.kitOne X.K (.ref D) (.ref C') = some c)
    (hN : X.N[i]? = some n := by rfl) (hv : Vis X.env.scope n := by first | exact Or.inl rfl | exact Or.inr (Or.inl rfl) | exact Or.inr (Or.inr rfl)) (hg : Gl X "isinstance" := by rfl) (hgc : Gl X cx := by rfl)
    (hd : (n == ("__debug__" : Str)) = false := by decide) (hcd : (n == ("__classdict__" : Str)) = false := by decide) (hdc : (cx == ("__debug__" : Str)) = false := by decide) :
    EV (X.suite a ((a, oe) :: pn)) b Γ (.Call (.Name "isinstance" p1) [.Name n p2, .Name cx p3] [] pos) (im rB c) :=
  EV.of (pe_callB (X := X.suite a ((a, oe) :: pn)) (call_isE E hz.zc hf) hg hm (by decide +kernel) (pa_cons (pe_var hN hv hd hcd) (pa_cons (pe_glob (v := .ref C') hgc hC rfl hdc) pa_nil))) (EvS.mki fun σ F H l g d Q q => by
    obtain ⟨v, l1, h1, h2, _⟩ := g.get hΓ
    refine ⟨v, h1, .ref C', .ref C', c, by rw [h2.2], fun u hu => hu, hk, q _ F H (Gw.refl d.e) rfl⟩)
end
/-! ### built-ins -/
theorem truth_ints {prog : Program} {w : World} {A : Around} {is : List Int} {its : List Value} (e : IntsAre its is) :
    TruthOf prog w A (fun i v => its.toArray[i]? = some v) (fun i => is.getD i 0 != 0) := fun i v s Q E hv hq => by
  have hv' : its[i]? = some v := by simpa using hv
  have key : ∀ {its : List Value} {is : List Int} {i : Nat} {v : Value}, IntsAre its is → its[i]? = some v → ∃ t, v = Value.int (is.getD i 0) t := by
    intro its is i v h
    induction h generalizing i with
    | nil => intro h; simp at h
    | cons n t _ ih =>
      intro h
      cases i with
      | zero => simp at h; subst h; exact ⟨_, rfl⟩
      | succ i => exact ih (by simpa using h)
  obtain ⟨t, rfl⟩ := key e hv'
  exact PyProof.Rows.truthy_int hq
theorem anyI_range : ∀ is : List Int, (List.range is.length).any (fun i => is.getD i 0 != 0) = is.any (· != 0)
  | [] => rfl
  | b :: bs => by
    rw [List.length_cons, List.range_succ_eq_map, List.any_cons, List.any_map, List.any_cons, ← anyI_range bs]
    all_goals rfl
def rAnyI (K : PySem.W.Frag) : List V → Hp → VK → Prop := fun vs H Q => ∃ (a : Addr) (is : List Int), vs = [V.ref a] ∧ SqL K H a (is.map V.int) ∧ Q (.bl (is.any (· != 0))) H
theorem cr_anyI {X : Cx} (hc : X.calm = true) : CallR X (.builtin "any") (rAnyI X.K) := by
  intro pins s σ H vs us Q I r h
  obtain ⟨a, is, rfl, hs, q⟩ := h
  obtain ⟨its, rv, hl, _⟩ := I.list hs
  rw [Vals.ref1 r]
  have hb := rv.ints
  have hlen := rv.length
  refine call_any_walk (iter_any hl.isList fun s₂ e2 st hne => ?_)
  subst e2
  refine ⟨_, _, _, _, _, _, _, rfl, Walks.list (A := X.A.in1) (I.ok.hd hc) _ a hne its.toArray, st, truth_ints hb, fun h' tk hk => ?_⟩
  refine ⟨.bl _, H, I.kept fun b o eo => hk b o (fun hmem => ?_) (Heap.get?_push_of_some _ eo), ?_, q⟩
  · rcases List.mem_cons.mp hmem with e1 | hmem
    · exact absurd (e1 ▸ Heap.lt_size eo) (Nat.lt_irrefl _)
    · cases hmem
  · show Value.bool _ = Value.bool _
    rw [← anyI_range, List.size_toArray, ← hlen, List.length_map]
theorem all2_ints : ∀ {xs : List V} {is : List Int} {F : Hp}, All2 (rI.r F) xs is → xs = is.map V.int
  | _, _, _, .nil => rfl
  | _, _, _, .cons h t => by rw [show _ = V.int _ from h, all2_ints t]; rfl
theorem all2_bls : ∀ {xs : List V} {is : List Bool} {F : Hp}, All2 (rB.r F) xs is → xs = is.map V.bl
  | _, _, _, .nil => rfl
  | _, _, _, .cons h t => by rw [show _ = V.bl _ from h, all2_bls t]; rfl
theorem all2_strs : ∀ {xs : List V} {is : List Str} {F : Hp}, All2 (rS.r F) xs is → xs = is.map V.str
  | _, _, _, .nil => rfl
  | _, _, _, .cons h t => by rw [show _ = V.str _ from h, all2_strs t]; rfl
section
variable {X : Cx} {b : Bs} {D : EndC} {Γ : Ctx} {α β γ : Type} {R : Rl α} {S : Rl β} {T : Rl γ} {x : α} {y : β} {z : γ} {as : List α} {n : Str} {e e1 e2 : Expr} {es : List Expr} {pos np p : Pos} {i : Nat} {s : Sl} {is : List Int} {i1 i2 : Int}
/-- what a one-argument call asks of the data: nothing new -/
theorem EV.c1 {r : List V → Hp → VK → Prop} (ha : AV X b Γ [e] [mk R x]) (h2 : ∀ {t : TA}, PA X [e] t → PE X (.Call (.Name n p) [e] [] pos) (tCB r t)) (hr : ∀ F H v, Ex F H → R.r F v x → ∀ Q : VK, (∀ u, T.r F u z → Q u H) → r [v] H Q) : EV X b Γ (.Call (.Name n p) [e] [] pos) (im T z) := by
  obtain ⟨ta, p1, p2⟩ := ha
  refine EV.of (h2 p1) (EvS.mki fun σ F H l g d Q q => p2 σ F H l g d _ fun vs F1 H1 w hv => ?_)
  obtain ⟨v, rfl, hv1⟩ := ims1 hv
  exact hr F1 H1 v w.e hv1 Q fun u hu => q u F1 H1 w hu
theorem EV.c2 {r : List V → Hp → VK → Prop} (ha : AV X b Γ [e1, e2] [mk R x, mk S y]) (h2 : ∀ {t : TA}, PA X [e1, e2] t → PE X (.Call (.Name n p) [e1, e2] [] pos) (tCB r t)) (hr : ∀ F H v w, Ex F H → R.r F v x → S.r F w y → ∀ Q : VK, (∀ u, T.r F u z → Q u H) → r [v, w] H Q) : EV X b Γ (.Call (.Name n p) [e1, e2] [] pos) (im T z) := by
  obtain ⟨ta, p1, p2⟩ := ha
  refine EV.of (h2 p1) (EvS.mki fun σ F H l g d Q q => p2 σ F H l g d _ fun vs F1 H1 w hv => ?_)
  obtain ⟨v, u, rfl, hv1, hu1⟩ := ims2 hv
  exact hr F1 H1 v u w.e hv1 hu1 Q fun u hu => q u F1 H1 w hu
section
variable (hst : starEach [e] X.env = (false, eval e X.env) :: starEach [] X.env)
end
/-- B: a built-in function by its name -/
theorem EV.cB {idS : String} {r : List V → Hp → VK → Prop} (hc : CallR X (.builtin idS) r) (ha : AV X b Γ [e] [mk R x]) (hm : X.mg n = none) (hv : bootBuiltins n = some (.builtin idS)) (hr : ∀ F H v, Ex F H → R.r F v x → ∀ Q : VK, (∀ u, T.r F u z → Q u H) → r [v] H Q) (hg : Gl X n) (hn : n ≠ "__name__") (hd : (n == ("__debug__" : Str)) = false)
    (hp : ∀ {t : TA}, PA X [e] t → PE X (.Call (.Name n p) [e] [] pos) (tCB r t)) : EV X b Γ (.Call (.Name n p) [e] [] pos) (im T z) := EV.c1 ha hp hr
theorem EV.abs (ha : AV X b Γ [e] [mk rI i1]) (hm : X.mg "abs" = none) (hg : Gl X "abs" := by rfl) (he : starEach [e] X.env = (false, eval e X.env) :: starEach [] X.env := by rfl) : EV X b Γ (.Call (.Name "abs" p) [e] [] pos) (im rI (if i1 < 0 then -i1 else i1)) :=
  EV.c1 ha (fun h => pe_callB call_abs hg hm (by decide +kernel) h (he := he) (hpl := rfl)) fun F H v _ h Q q => ⟨i1, by rw [show v = V.int i1 from h], q _ rfl⟩
theorem EV.toInt (ha : AV X b Γ [e] [mk rI i1]) (hm : X.mg "int" = none) (hg : Gl X "int" := by rfl) (he : starEach [e] X.env = (false, eval e X.env) :: starEach [] X.env := by rfl) : EV X b Γ (.Call (.Name "int" p) [e] [] pos) (im rI i1) :=
  EV.c1 ha (fun h => pe_callTy call_int1 hg hm (by decide +kernel) h (he := he) (hpl := rfl)) fun F H v _ h Q q => .inl ⟨i1, by rw [show v = V.int i1 from h], q _ rfl⟩
theorem EV.lenL (ha : AV X b Γ [e] [mk (rL R) as]) (hm : X.mg "len" = none) (hg : Gl X "len" := by rfl) (he : starEach [e] X.env = (false, eval e X.env) :: starEach [] X.env := by rfl) : EV X b Γ (.Call (.Name "len" p) [e] [] pos) (im rI (as.length : Int)) :=
  EV.c1 ha (fun h => pe_callB call_len_seq hg hm (by decide +kernel) h (he := he) (hpl := rfl)) fun F H v ef ⟨a, xs, h1, h2, h3⟩ Q q => ⟨a, xs, by rw [h1], .inl (SqL.of (ef a _ h2)), q _ (by show V.int (xs.length : Int) = V.int _; rw [h3.len])⟩
theorem EV.lenT (ha : AV X b Γ [e] [mk (rT R) as]) (hm : X.mg "len" = none) (hg : Gl X "len" := by rfl) (he : starEach [e] X.env = (false, eval e X.env) :: starEach [] X.env := by rfl) : EV X b Γ (.Call (.Name "len" p) [e] [] pos) (im rI (as.length : Int)) :=
  EV.c1 ha (fun h => pe_callB call_len_seq hg hm (by decide +kernel) h (he := he) (hpl := rfl)) fun F H v ef ⟨a, xs, h1, h2, h3⟩ Q q => ⟨a, xs, by rw [h1], .inr (SqT.of (ef a _ h2)), q _ (by show V.int (xs.length : Int) = V.int _; rw [h3.len])⟩
theorem EV.lenSc (ha : AV X b Γ [e] [mk (rSc X.K) is]) (hm : X.mg "len" = none) (hg : Gl X "len" := by rfl) (he : starEach [e] X.env = (false, eval e X.env) :: starEach [] X.env := by rfl) : EV X b Γ (.Call (.Name "len" p) [e] [] pos) (im rI (is.length : Int)) :=
  EV.c1 ha (fun h => pe_callB call_len_seq hg hm (by decide +kernel) h (he := he) (hpl := rfl)) fun F H v ef ⟨a, h1, h2⟩ Q q => ⟨a, _, by rw [h1], .inl (ex_l ef h2), q _ (by show V.int ((is.map V.int).length : Int) = V.int _; rw [List.length_map])⟩
theorem EV.lenS {z : Str} (ha : AV X b Γ [e] [mk rS z]) (hz : z.length ≤ sizeLine) (hm : X.mg "len" = none) (hg : Gl X "len" := by rfl) (he : starEach [e] X.env = (false, eval e X.env) :: starEach [] X.env := by rfl) : EV X b Γ (.Call (.Name "len" p) [e] [] pos) (im rI (z.length : Int)) :=
  EV.c1 ha (fun h => pe_callB call_len_str hg hm (by decide +kernel) h (he := he) (hpl := rfl)) fun F H v ef h Q q => ⟨z, by rw [show v = V.str z from h], hz, q _ rfl⟩
theorem EV.sum (ha : AV X b Γ [e] [mk (rL rI) is]) (hm : X.mg "sum" = none) (hg : Gl X "sum" := by rfl) (hc : X.calm = true := by rfl) (he : starEach [e] X.env = (false, eval e X.env) :: starEach [] X.env := by rfl) : EV X b Γ (.Call (.Name "sum" p) [e] [] pos) (im rI is.sum) :=
  EV.c1 ha (fun h => pe_callB (cr_sum hc) hg hm (by decide +kernel) h (he := he) (hpl := rfl)) fun F H v ef ⟨a, xs, h1, h2, h3⟩ Q q => ⟨a, is, by rw [h1], by rw [← all2_ints h3]; exact SqL.of (ef a _ h2), q _ rfl⟩
theorem EV.anyI (ha : AV X b Γ [e] [mk (rL rI) is]) (hm : X.mg "any" = none) (hg : Gl X "any" := by rfl) (hc : X.calm = true := by rfl) (he : starEach [e] X.env = (false, eval e X.env) :: starEach [] X.env := by rfl) : EV X b Γ (.Call (.Name "any" p) [e] [] pos) (im rB (is.any (· != 0))) :=
  EV.c1 ha (fun h => pe_callB (cr_anyI hc) hg hm (by decide +kernel) h (he := he) (hpl := rfl)) fun F H v ef ⟨a, xs, h1, h2, h3⟩ Q q => ⟨a, is, by rw [h1], by rw [← all2_ints h3]; exact SqL.of (ef a _ h2), q _ rfl⟩
theorem EV.max2 (ha : AV X b Γ [e1, e2] [mk rI i1, mk rI i2]) (hm : X.mg "max" = none) (hg : Gl X "max" := by rfl) (hc : X.calm = true := by rfl) (he : starEach [e1, e2] X.env = (false, eval e1 X.env) :: starEach [e2] X.env := by rfl) (hpl : (backTo pos (starEach [e2] X.env)).any (·.1) = false := by rfl) : EV X b Γ (.Call (.Name "max" p) [e1, e2] [] pos) (im rI (if i2 > i1 then i2 else i1)) :=
  EV.c2 ha (fun h => pe_callB (call_max2 hc) hg hm (by decide +kernel) h (he := he) (hpl := hpl)) fun F H v u ef h1 h2 Q q => ⟨i1, i2, by rw [show v = V.int i1 from h1, show u = V.int i2 from h2], q _ rfl⟩
/-- list(xs): a new one, one's own -/
theorem EV.listOf (ha : AV X b Γ [e] [mk (rL R) as]) (hm : X.mg "list" = none) (hg : Gl X "list" := by rfl) (he : starEach [e] X.env = (false, eval e X.env) :: starEach [] X.env := by rfl) : EV X b Γ (.Call (.Name "list" p) [e] [] pos) (ow R as) := by
  obtain ⟨ta, p1, p2⟩ := ha
  refine EV.of (pe_callTy call_list_of hg hm (by decide +kernel) p1 (he := he) (hpl := rfl)) fun σ F H l g d Q q => p2 σ F H l g d _ fun vs F1 H1 w hv => ?_
  obtain ⟨v, rfl, a, xs, rfl, h2, h3⟩ := ims1 hv
  exact ⟨a, xs, rfl, .inl (SqL.of (w.e a _ h2)), fun c hc => q _ F1 _ [c] (w.trans (Gw.own w.e hc)) ⟨c, xs, rfl, rfl, upd_same, h3⟩ fun c' hc' => by rw [List.mem_singleton.mp hc']; exact ⟨ex_none w.h hc, ex_none w.e hc⟩⟩
/-- xs + ys, xs * k, xs[a:] -/
theorem EV.cat {bs : List α} (ha : EV X b Γ e1 (im (rL R) as)) (hb : EV X b Γ e2 (im (rL R) bs)) (hz : as.length + bs.length ≤ 100000) : EV X b Γ (.BinOp e1 .Add e2 pos) (ow R (as ++ bs)) :=
  EV.of (pe_op op_cat pe_w pe_w) (EvS.op2 ha hb fun F H v w ef ⟨a, xs, h1, h2, h3⟩ ⟨c, ys, k1, k2, k3⟩ Q q => ⟨a, c, xs, ys, h1, k1, ef a _ h2, ef c _ k2, sz_of (by rw [h3.len, k3.len]; exact hz), fun p hp => q _ F _ [p] (Gw.own ef hp) ⟨p, _, rfl, rfl, upd_same, h3.app k3⟩ fun c' hc' => by rw [List.mem_singleton.mp hc']; exact ⟨hp, ex_none ef hp⟩⟩)
theorem EV.rep (ha : EV X b Γ e1 (im (rL R) as)) (hb : EV X b Γ e2 (im rI i1)) (hz : as.length * i1.toNat ≤ 100000) (hi : -(2 ^ 63) ≤ i1 ∧ i1 < 2 ^ 63) : EV X b Γ (.BinOp e1 .Mult e2 pos) (ow R (List.replicate i1.toNat as).flatten) :=
  EV.of (pe_op op_rep pe_w pe_w) (EvS.op2 ha hb fun F H v w ef ⟨a, xs, h1, h2, h3⟩ hw Q q => ⟨a, i1, xs, h1, hw, ef a _ h2, hi.1, hi.2, sz_of (by rw [h3.len]; exact hz), fun p hp => q _ F _ [p] (Gw.own ef hp) ⟨p, _, rfl, rfl, upd_same, h3.rep _⟩ fun c' hc' => by rw [List.mem_singleton.mp hc']; exact ⟨hp, ex_none ef hp⟩⟩)
theorem cutV_from (xs : List V) (m : Nat) : cutV xs (some (m : Int)) none = xs.drop m := by
  unfold cutV
  rw [HT.sIx_nat, HT.sIx_none]
  by_cases h : m ≤ xs.length
  · rw [Nat.min_eq_left h, List.take_of_length_le (by rw [List.length_drop]; omega)]
  · rw [Nat.min_eq_right (by omega), List.drop_of_length_le (Nat.le_refl _), List.drop_of_length_le (by omega)]; simp
theorem EV.from {m : Nat} {p2 : Pos} (ha : EV X b Γ e1 (im (rL R) as)) (hb : EV X b Γ e2 (im rI (m : Int))) : EV X b Γ (.Subscript e1 (.Slice (some e2) none none p2) pos) (ow R (as.drop m)) :=
  EV.of (pe_slice sl_list pe_w (po_some pe_w) po_none) fun σ F H l g d Q q => ha σ F H l g d _ fun v F1 H1 l1 w1 ⟨_, a, xs, h1, h2, h3⟩ _ => hb σ F1 H1 l (g.grow w1) (d.grow g.t w1) _ fun u F2 H2 l2 w2 p2 _ => ⟨(m : Int), p2.2, a, xs, h1, SqL.of (w2.e a _ (w2.f a _ h2)), fun p hp => q _ F2 _ [p] ((w1.trans w2).trans (Gw.own w2.e hp))
    ⟨p, _, rfl, rfl, upd_same, by rw [cutV_from]; exact (h3.imp fun _ _ => R.m w2.f).drop m⟩ fun c' hc' => by rw [List.mem_singleton.mp hc']; exact ⟨ex_none (w1.trans w2).h hp, ex_none w2.e hp⟩⟩
/-! a list of one's own, read by its name -/
theorem EV.lenOw {np : Pos} (i : Nat) (hΓ : Γ[i]? = some (some (ow R as))) (hm : X.mg "len" = none) (hN : X.N[i]? = some n := by rfl) (hv : Vis X.env.scope n := by first | exact Or.inl rfl | exact Or.inr (Or.inl rfl) | exact Or.inr (Or.inr rfl)) (hg : Gl X "len" := by rfl) (hd : (n == ("__debug__" : Str)) = false := by decide) (hcd : (n == ("__classdict__" : Str)) = false := by decide) :
    EV X b Γ (.Call (.Name "len" p) [.Name n np] [] pos) (im rI (as.length : Int)) := EV.of (pe_callB call_len_seq hg hm (by decide +kernel) (pa_cons (pe_var hN hv hd hcd) pa_nil)) (EvS.mki fun σ F H l g d Q q => by
  obtain ⟨v, l1, h1, ⟨a, xs, rfl, rfl, h4, h5⟩, _⟩ := g.get hΓ
  exact ⟨_, h1, a, xs, rfl, .inl (SqL.of h4), q _ F H (Gw.refl d.e) (by show V.int (xs.length : Int) = V.int _; rw [h5.len])⟩)
theorem EV.ixOw {a : α} {k : Int} {np : Pos} (i : Nat) (hΓ : Γ[i]? = some (some (ow R as))) (hk : EV X b Γ e2 (im rI k)) (ha : atI as k = some a) (hN : X.N[i]? = some n := by rfl) (hv : Vis X.env.scope n := by first | exact Or.inl rfl | exact Or.inr (Or.inl rfl) | exact Or.inr (Or.inr rfl)) (hd : (n == ("__debug__" : Str)) = false := by decide) (hcd : (n == ("__classdict__" : Str)) = false := by decide)
    (hs : PlainIx e2 := by exact (fun _ _ => rfl)) : EV X b Γ (.Subscript (.Name n np) e2 pos) (im R a) := EV.of (pe_ix ix_list (pe_var hN hv hd hcd) pe_w hs) (EvS.mki fun σ F H l g d Q q => by
  obtain ⟨v, l1, h1, ⟨c, xs, rfl, rfl, h4, h5⟩, _⟩ := g.get hΓ
  refine ⟨_, h1, hk σ F H l g d _ fun u F1 H1 l2 w p _ => ?_⟩
  obtain ⟨u2, k1, k2⟩ := atI_all h5 ha
  exact ⟨c, xs, k, u2, rfl, p.2, SqL.of (w.h c _ h4), k1, q u2 F1 H1 w (R.m w.f k2)⟩)
theorem inV_ints (k : Int) : ∀ is : List Int, inV (.int k) (is.map V.int) = decide (k ∈ is)
  | [] => rfl
  | a :: is => by
    show (eqV (.int a) (.int k) || inV (.int k) (is.map V.int)) = _
    rw [inV_ints k is, show eqV (.int a) (.int k) = (a == k) from rfl]
    by_cases h : a = k
    · subst h; simp
    · have h' : ¬ k = a := fun e => h e.symm
      simp [h, h']
theorem flat_ints : ∀ is : List Int, (is.map V.int).all flatV = true
  | [] => rfl
  | _ :: is => flat_ints is
theorem EV.inI {k : Int} (hk : EV X b Γ e1 (im rI k)) (hl : EV X b Γ e2 (im (rL rI) is)) (hm : behindInMarks .In e2 = false := by rfl) : EV X b Γ (.Compare e1 [.In] [e2] pos) (im rB (decide (k ∈ is))) := EV.of (pe_cmpR op_in_seq pe_w pe_w hm) (EvS.op2i hk hl fun F H v w ef h1 ⟨a, xs, k1, k2, k3⟩ Q q =>
  ⟨a, xs, k1, .inl (SqL.of (ef a _ k2)), by rw [show v = V.int k from h1]; rfl, by rw [all2_ints k3]; exact flat_ints _, q _ (by rw [show v = V.int k from h1, all2_ints k3, inV_ints]; rfl)⟩)
theorem TV.inI {k : Int} (hk : EV X b Γ e1 (im rI k)) (hl : EV X b Γ e2 (im (rL rI) is)) (hm : behindInMarks .In e2 = false := by rfl) : TV X b Γ (.Compare e1 [.In] [e2] pos) (decide (k ∈ is)) := TV.of (pt_cmpR op_in_seq pe_w pe_w hm) (TvS.test (EvS.op2i hk hl fun F H v w ef h1 ⟨a, xs, k1, k2, k3⟩ Q q =>
  ⟨a, xs, k1, .inl (SqL.of (ef a _ k2)), by rw [show v = V.int k from h1]; rfl, by rw [all2_ints k3]; exact flat_ints _, q _ (by rw [show v = V.int k from h1, all2_ints k3, inV_ints]; rfl)⟩))
theorem EV.ninI {k : Int} (hk : EV X b Γ e1 (im rI k)) (hl : EV X b Γ e2 (im (rL rI) is)) (hm : behindInMarks .NotIn e2 = false := by rfl) : EV X b Γ (.Compare e1 [.NotIn] [e2] pos) (im rB (!decide (k ∈ is))) := EV.of (pe_cmpR op_notIn_seq pe_w pe_w hm) (EvS.op2i hk hl fun F H v w ef h1 ⟨a, xs, k1, k2, k3⟩ Q q =>
  ⟨a, xs, k1, .inl (SqL.of (ef a _ k2)), by rw [show v = V.int k from h1]; rfl, by rw [all2_ints k3]; exact flat_ints _, q _ (by rw [show v = V.int k from h1, all2_ints k3, inV_ints]; rfl)⟩)
theorem TV.ninI {k : Int} (hk : EV X b Γ e1 (im rI k)) (hl : EV X b Γ e2 (im (rL rI) is)) (hm : behindInMarks .NotIn e2 = false := by rfl) : TV X b Γ (.Compare e1 [.NotIn] [e2] pos) (!decide (k ∈ is)) := TV.of (pt_cmpR op_notIn_seq pe_w pe_w hm) (TvS.test (EvS.op2i hk hl fun F H v w ef h1 ⟨a, xs, k1, k2, k3⟩ Q q =>
  ⟨a, xs, k1, .inl (SqL.of (ef a _ k2)), by rw [show v = V.int k from h1]; rfl, by rw [all2_ints k3]; exact flat_ints _, q _ (by rw [show v = V.int k from h1, all2_ints k3, inV_ints]; rfl)⟩))
theorem EV.ninOw {k : Int} {np : Pos} (i : Nat) (hk : EV X b Γ e1 (im rI k)) (hΓ : Γ[i]? = some (some (ow rI is))) (hN : X.N[i]? = some n := by rfl) (hv : Vis X.env.scope n := by first | exact Or.inl rfl | exact Or.inr (Or.inl rfl) | exact Or.inr (Or.inr rfl)) (hd : (n == ("__debug__" : Str)) = false := by decide) (hcd : (n == ("__classdict__" : Str)) = false := by decide) :
    EV X b Γ (.Compare e1 [.NotIn] [.Name n np] pos) (im rB (!decide (k ∈ is))) := EV.of (pe_cmpR op_notIn_seq pe_w (pe_var hN hv hd hcd) rfl) (EvS.mki fun σ F H l g d Q q => hk σ F H l g d _ fun v F1 H1 l1 w p1 _ => by
  obtain ⟨u, l2, h1, ⟨a, xs, rfl, rfl, h4, h5⟩, _⟩ := g.get hΓ
  refine ⟨_, h1, a, xs, rfl, .inl (SqL.of (w.h a _ h4)), by rw [show v = V.int k from p1.2]; rfl, by rw [all2_ints h5]; exact flat_ints _, q _ F1 H1 w (by rw [show v = V.int k from p1.2, all2_ints h5, inV_ints]; rfl)⟩)
theorem TV.ninOw {k : Int} {np : Pos} (i : Nat) (hk : EV X b Γ e1 (im rI k)) (hΓ : Γ[i]? = some (some (ow rI is))) (hN : X.N[i]? = some n := by rfl) (hv : Vis X.env.scope n := by first | exact Or.inl rfl | exact Or.inr (Or.inl rfl) | exact Or.inr (Or.inr rfl)) (hd : (n == ("__debug__" : Str)) = false := by decide) (hcd : (n == ("__classdict__" : Str)) = false := by decide) :
    TV X b Γ (.Compare e1 [.NotIn] [.Name n np] pos) (!decide (k ∈ is)) := TV.of (pt_cmpR op_notIn_seq pe_w (pe_var hN hv hd hcd) rfl) (TvS.test (EvS.mki fun σ F H l g d Q q => hk σ F H l g d _ fun v F1 H1 l1 w p1 _ => by
  obtain ⟨u, l2, h1, ⟨a, xs, rfl, rfl, h4, h5⟩, _⟩ := g.get hΓ
  refine ⟨_, h1, a, xs, rfl, .inl (SqL.of (w.h a _ h4)), by rw [show v = V.int k from p1.2]; rfl, by rw [all2_ints h5]; exact flat_ints _, q _ F1 H1 w (by rw [show v = V.int k from p1.2, all2_ints h5, inV_ints]; rfl)⟩))
/-- e is not True -/
theorem EV.notTrue {c : Bool} {j : Nat} {p2 : Pos} (h : EV X b Γ e1 (im rB c)) : EV X b Γ (.Compare e1 [.IsNot] [.Constant (.bool true) j p2] pos) (im rB (!c)) := EV.of (pe_cmpR op_notBl pe_w pe_w (nomark _)) (EvS.op2i h (EV.bl (c := true)) fun F H v w _ h1 h2 Q q => ⟨c, true, h1, h2, q _ (by show V.bl _ = V.bl _; cases c <;> rfl)⟩)
theorem TV.notTrue {c : Bool} {j : Nat} {p2 : Pos} (h : EV X b Γ e1 (im rB c)) : TV X b Γ (.Compare e1 [.IsNot] [.Constant (.bool true) j p2] pos) (!c) := TV.of (pt_cmpR op_notBl pe_w pe_w (nomark _)) (TvS.test (EvS.op2i h (EV.bl (c := true)) fun F H v w _ h1 h2 Q q => ⟨c, true, h1, h2, q _ (by show V.bl _ = V.bl _; cases c <;> rfl)⟩))
theorem EV.isNon {a : Option α} {j : Nat} {p2 : Pos} (h : EV X b Γ e1 (im (rO R) a)) (hR : ∀ F v x, R.r F v x → v ≠ .non) : EV X b Γ (.Compare e1 [.Is] [.Constant .none j p2] pos) (im rB a.isNone) := EV.of (pe_cmpR op_isN pe_w pe_w (nomark _)) (EvS.op2i h EV.non fun F H v w _ h1 h2 Q q => ⟨h2, q _ (by
  cases a with
  | none => have h1 : v = .non := h1; subst h1; rfl
  | some a => have := hR F v a h1; show V.bl _ = V.bl _; simp [this])⟩)
theorem TV.isNon {a : Option α} {j : Nat} {p2 : Pos} (h : EV X b Γ e1 (im (rO R) a)) (hR : ∀ F v x, R.r F v x → v ≠ .non) : TV X b Γ (.Compare e1 [.Is] [.Constant .none j p2] pos) a.isNone := TV.of (pt_cmpR op_isN pe_w pe_w (nomark _)) (TvS.test (EvS.op2i h EV.non fun F H v w _ h1 h2 Q q => ⟨h2, q _ (by
  cases a with
  | none => have h1 : v = .non := h1; subst h1; rfl
  | some a => have := hR F v a h1; show V.bl _ = V.bl _; simp [this])⟩))
theorem EV.notNon {a : Option α} {j : Nat} {p2 : Pos} (h : EV X b Γ e1 (im (rO R) a)) (hR : ∀ F v x, R.r F v x → v ≠ .non) : EV X b Γ (.Compare e1 [.IsNot] [.Constant .none j p2] pos) (im rB a.isSome) := EV.of (pe_cmpR op_notN pe_w pe_w (nomark _)) (EvS.op2i h EV.non fun F H v w _ h1 h2 Q q => ⟨h2, q _ (by
  cases a with
  | none => have h1 : v = .non := h1; subst h1; rfl
  | some a => have := hR F v a h1; show V.bl _ = V.bl _; simp [this])⟩)
theorem TV.notNon {a : Option α} {j : Nat} {p2 : Pos} (h : EV X b Γ e1 (im (rO R) a)) (hR : ∀ F v x, R.r F v x → v ≠ .non) : TV X b Γ (.Compare e1 [.IsNot] [.Constant .none j p2] pos) a.isSome := TV.of (pt_cmpR op_notN pe_w pe_w (nomark _)) (TvS.test (EvS.op2i h EV.non fun F H v w _ h1 h2 Q q => ⟨h2, q _ (by
  cases a with
  | none => have h1 : v = .non := h1; subst h1; rfl
  | some a => have := hR F v a h1; show V.bl _ = V.bl _; simp [this])⟩))
end
end Lg

namespace Lg
open PySem L2 Evl PyProof.Rows
/-! ### data compared -/
structure Dt {α : Type} (K : PySem.W.Frag) (R : Rl α) (D : α → PyData) (n : Nat) : Prop where
  rep : ∀ {H v x}, R.r H v x → Dp K H v (D x)
  lay : ∀ x, (D x).canLay0 = true
  dep : ∀ x, (D x).depth ≤ n
  eqv : ∀ x y, PyData.eqv (D x) (D y) = true ↔ x = y
section
variable {K : PySem.W.Frag} {α β : Type} {R : Rl α} {S : Rl β} {D : α → PyData} {D' : β → PyData} {n m : Nat}
theorem Dt.int : Dt K rI PyData.int 0 := ⟨fun h => by rw [show _ = V.int _ from h]; exact .int _, fun _ => rfl, fun _ => Nat.le_of_eq rfl, fun x y => by simp [PyData.eqv]⟩
theorem Dt.bool : Dt K rB PyData.bool 0 := ⟨fun h => by rw [show _ = V.bl _ from h]; exact .bl _, fun _ => rfl, fun _ => Nat.le_of_eq rfl, fun x y => by simp [PyData.eqv]⟩
theorem Dt.dpAll (d : Dt K R D n) : ∀ {H : Hp} {vs : List V} {as : List α}, All2 (R.r H) vs as → DpAll K H vs (as.map D)
  | _, _, _, .nil => .nil
  | _, _, _, .cons h t => .cons (d.rep h) (d.dpAll t)
theorem Dt.layAll (d : Dt K R D n) : ∀ as : List α, PyData.canLayAll0 (as.map D) = true
  | [] => rfl
  | a :: as => by
    show ((D a).canLay0 && PyData.canLayAll0 (as.map D)) = true
    rw [d.lay a, d.layAll as]; rfl
theorem Dt.depAll (d : Dt K R D n) : ∀ as : List α, PyData.depthAll (as.map D) ≤ n
  | [] => Nat.zero_le _
  | a :: as => by
    show max (D a).depth (PyData.depthAll (as.map D)) ≤ n
    exact Nat.max_le.mpr ⟨d.dep a, d.depAll as⟩
theorem Dt.eqvAll (d : Dt K R D n) : ∀ as bs : List α, PyData.eqvAll (as.map D) (bs.map D) = true ↔ as = bs
  | [], [] => ⟨fun _ => rfl, fun _ => rfl⟩
  | [], _ :: _ => ⟨fun h => absurd (show false = true from h) (by decide), fun h => nomatch h⟩
  | _ :: _, [] => ⟨fun h => absurd (show false = true from h) (by decide), fun h => nomatch h⟩
  | a :: as, b :: bs => by
    show (PyData.eqv (D a) (D b) && PyData.eqvAll (as.map D) (bs.map D)) = true ↔ _
    rw [Bool.and_eq_true, d.eqv, d.eqvAll as bs]
    exact ⟨fun ⟨h1, h2⟩ => by rw [h1, h2], fun h => by cases h; exact ⟨rfl, rfl⟩⟩
theorem Dt.lst (d : Dt K R D n) : Dt K (rL R) (fun as => .list (as.map D)) (n + 1) := ⟨fun ⟨p, xs, h1, h2, h3⟩ => by
    subst h1; exact .lst (SqL.of h2) (d.dpAll h3), fun as => d.layAll as, fun as => by
    have := d.depAll as
    show PyData.depthAll (as.map D) + 1 ≤ n + 1
    omega, fun as bs => by
    rw [← d.eqvAll as bs]
    exact Iff.rfl⟩
theorem Dt.tup (d : Dt K R D n) : Dt K (rT R) (fun as => .tuple (as.map D)) (n + 1) := ⟨fun ⟨p, xs, h1, h2, h3⟩ => by
    subst h1; exact .tup (SqT.of h2) (d.dpAll h3), fun as => d.layAll as, fun as => by
    have := d.depAll as
    show PyData.depthAll (as.map D) + 1 ≤ n + 1
    omega, fun as bs => by
    rw [← d.eqvAll as bs]
    exact Iff.rfl⟩
end
section
variable {X : Cx} {b : Bs} {Γ : Ctx} {α β γ : Type} {R : Rl α} {S : Rl β} {x y : α} {D : α → PyData} {n : Nat} {e1 e2 : Expr} {pos : Pos}
theorem Dt.shaped (d : Dt X.K R D n) (hn : n ≤ 64) (x : α) : SeqAt.shaped (D x) = true := by
  unfold SeqAt.shaped
  rw [d.lay x, decide_eq_true (Nat.le_trans (d.dep x) hn)]; rfl
theorem EV.eqD [DecidableEq α] (d : Dt X.K R D n) (hn : n ≤ 64) (hu : X.A.units + 64 < cLine) (ha : EV X b Γ e1 (im R x)) (hb : EV X b Γ e2 (im R y)) : EV X b Γ (.Compare e1 [.Eq] [e2] pos) (im rB (decide (x = y))) := EV.of (pe_cmpR (op_eqD hu) pe_w pe_w (nomark _)) (EvS.op2i ha hb fun F H v w ef h1 h2 Q q =>
  ⟨_, _, d.rep (R.m ef h1), d.rep (R.m ef h2), d.shaped hn x, d.shaped hn y, q _ (by
    show V.bl _ = V.bl _
    congr 1
    rw [Bool.eq_iff_iff, d.eqv]; simp)⟩)
theorem TV.eqD [DecidableEq α] (d : Dt X.K R D n) (hn : n ≤ 64) (hu : X.A.units + 64 < cLine) (ha : EV X b Γ e1 (im R x)) (hb : EV X b Γ e2 (im R y)) : TV X b Γ (.Compare e1 [.Eq] [e2] pos) (decide (x = y)) := TV.of (pt_cmpR (op_eqD hu) pe_w pe_w (nomark _)) (TvS.test (EvS.op2i ha hb fun F H v w ef h1 h2 Q q =>
  ⟨_, _, d.rep (R.m ef h1), d.rep (R.m ef h2), d.shaped hn x, d.shaped hn y, q _ (by
    show V.bl _ = V.bl _
    congr 1
    rw [Bool.eq_iff_iff, d.eqv]; simp)⟩))
theorem EV.neD [DecidableEq α] (d : Dt X.K R D n) (hn : n ≤ 64) (hu : X.A.units + 64 < cLine) (ha : EV X b Γ e1 (im R x)) (hb : EV X b Γ e2 (im R y)) : EV X b Γ (.Compare e1 [.NotEq] [e2] pos) (im rB (!decide (x = y))) := EV.of (pe_cmpR (op_neD hu) pe_w pe_w (nomark _)) (EvS.op2i ha hb fun F H v w ef h1 h2 Q q =>
  ⟨_, _, d.rep (R.m ef h1), d.rep (R.m ef h2), d.shaped hn x, d.shaped hn y, q _ (by
    show V.bl _ = V.bl _
    congr 2
    rw [Bool.eq_iff_iff, d.eqv]; simp)⟩)
theorem TV.neD [DecidableEq α] (d : Dt X.K R D n) (hn : n ≤ 64) (hu : X.A.units + 64 < cLine) (ha : EV X b Γ e1 (im R x)) (hb : EV X b Γ e2 (im R y)) : TV X b Γ (.Compare e1 [.NotEq] [e2] pos) (!decide (x = y)) := TV.of (pt_cmpR (op_neD hu) pe_w pe_w (nomark _)) (TvS.test (EvS.op2i ha hb fun F H v w ef h1 h2 Q q =>
  ⟨_, _, d.rep (R.m ef h1), d.rep (R.m ef h2), d.shaped hn x, d.shaped hn y, q _ (by
    show V.bl _ = V.bl _
    congr 2
    rw [Bool.eq_iff_iff, d.eqv]; simp)⟩))
end
/-! ### dicts -/
def kget {β : Type} (kvs : List (Key × β)) (k : Key) : Option β := (kvs.find? fun kv => decide (kv.1 = k)).map (·.2)
def kput {β : Type} (kvs : List (Key × β)) (k : Key) (v : β) : List (Key × β) := if kvs.any (fun kv => decide (kv.1 = k)) then kvs.map (fun kv => if kv.1 = k then (kv.1, v) else kv) else kvs ++ [(k, v)]
inductive KvR {β : Type} (p : V → β → Prop) : List (Key × V) → List (Key × β) → Prop
  | nil : KvR p [] []
  | cons {k : Key} {v : V} {y : β} {ws : List (Key × V)} {kvs : List (Key × β)} : p v y → KvR p ws kvs → KvR p ((k, v) :: ws) ((k, y) :: kvs)
section
variable {β : Type} {p q : V → β → Prop}
theorem KvR.imp (h : ∀ v y, p v y → q v y) : ∀ {ws kvs}, KvR p ws kvs → KvR q ws kvs
  | _, _, .nil => .nil
  | _, _, .cons x t => .cons (h _ _ x) (t.imp h)
theorem KvR.len : ∀ {ws kvs}, KvR p ws kvs → ws.length = kvs.length
  | _, _, .nil => rfl
  | _, _, .cons _ t => by simp [t.len]
theorem KvR.any (k : Key) : ∀ {ws kvs}, KvR p ws kvs → (ws.any fun kv => decide (kv.1 = k)) = kvs.any fun kv => decide (kv.1 = k)
  | _, _, .nil => rfl
  | _, _, .cons x t => by rw [List.any_cons, List.any_cons, t.any k]
theorem KvR.app : ∀ {ws kvs ws' kvs'}, KvR p ws kvs → KvR p ws' kvs' → KvR p (ws ++ ws') (kvs ++ kvs')
  | _, _, _, _, .nil, t => t
  | _, _, _, _, .cons x s, t => .cons x (s.app t)
theorem KvR.repl (k : Key) {v : V} {y : β} (h : p v y) : ∀ {ws kvs}, KvR p ws kvs → KvR p (ws.map fun kv => if kv.1 = k then (kv.1, v) else kv) (kvs.map fun kv => if kv.1 = k then (kv.1, y) else kv)
  | _, _, .nil => .nil
  | _, _, .cons (k := k') x t => by
    rw [List.map_cons, List.map_cons]
    by_cases z : k' = k
    · rw [if_pos z, if_pos z]; exact .cons h (t.repl k h)
    · rw [if_neg z, if_neg z]; exact .cons x (t.repl k h)
theorem KvR.put (k : Key) {v : V} {y : β} (h : p v y) {ws kvs} (t : KvR p ws kvs) : KvR p (putK ws k v) (kput kvs k y) := by
  unfold putK kput
  rw [t.any k]
  split
  · exact t.repl k h
  · exact t.app (.cons h .nil)
theorem KvR.get (k : Key) : ∀ {ws kvs}, KvR p ws kvs → match kget kvs k with | none => valV ws k = none | some y => ∃ v, valV ws k = some v ∧ p v y
  | _, _, .nil => rfl
  | _, _, .cons (k := k') (v := v) (y := y) (ws := ws) (kvs := kvs) x t => by
    by_cases z : k' = k
    · have e : kget ((k', y) :: kvs) k = some y := by simp [kget, List.find?_cons, z]
      rw [e]
      exact ⟨v, valV_pos z, x⟩
    · have e : kget ((k', y) :: kvs) k = kget kvs k := by simp [kget, List.find?_cons, z]
      rw [e, show valV ((k', v) :: ws) k = valV ws k from valV_neg z]
      exact t.get k
end
def rD {β : Type} (S : Rl β) : Rl (List (Key × β)) :=
  ⟨fun H v kvs => ∃ a ws, v = .ref a ∧ H a = some (.dK ws) ∧ KvR (S.r H) ws kvs, fun {H H' v kvs} e ⟨a, ws, h1, h2, h3⟩ => ⟨a, ws, h1, e a _ h2, h3.imp fun _ _ => S.m e⟩⟩
/-- a dict of one's own -/
def owD {β : Type} (S : Rl β) (kvs : List (Key × β)) : Sl where
  P := fun F H v l => ∃ p ws, v = .ref p ∧ l = [p] ∧ H p = some (.dK ws) ∧ KvR (S.r F) ws kvs
  m := fun e k ⟨p, xs, h1, h2, h3, h4⟩ => ⟨p, xs, h1, h2, by rw [k p (by rw [h2]; exact List.mem_singleton.mpr rfl)]; exact h3, h4.imp fun _ _ => S.m e⟩
  t := fun ⟨p, xs, h1, h2, h3, h4⟩ a ha => by
    rw [h2] at ha
    rw [List.mem_singleton.mp ha, h3]
    exact fun z => nomatch z
  d := fun ⟨p, xs, h1, h2, h3, h4⟩ => by rw [h2]; simp
section
variable {X : Cx} {b : Bs} {Γ : Ctx} {α β γ : Type} {R : Rl α} {S : Rl β} {x : α} {y : β} {e e1 e2 kx vx iter : Expr} {pos np : Pos} {kvs : List (Key × β)} {k : Key} {as : List α} {scope : Scope} {n : Str} {j : Nat}
theorem EV.fzD (h : EV X b Γ e (owD S kvs)) : EV X b Γ e (im (rD S) kvs) := EvS.mki fun σ F H l g d Q q => h σ F H l g d Q fun v F' H' l' w ⟨p, xs, h1, h2, h3, h4⟩ f => by
  subst h1 h2
  obtain ⟨f1, f2⟩ := f p (List.mem_singleton.mpr rfl)
  refine q _ (upd F' p (.dK xs)) H' ⟨w.f.trans (Ex.new f2), w.h, fun a u ha => ?_, fun a h1 h2 => ?_⟩ ⟨p, xs, rfl, upd_same, h4.imp fun _ _ => S.m (Ex.new f2)⟩
  · by_cases z : a = p
    · subst z; rw [upd_same] at ha; rw [h3]; exact ha
    · rw [upd_ne z] at ha; exact w.e a u ha
  · rw [upd_ne (fun z => h2 (by rw [z]; exact f1))]; exact w.k a h1 h2
/-- k in d, k not in d, d[k] -/
theorem EV.inD (hu : X.A.units + 1 < cLine) (hk : EV X b Γ e1 (im R x)) (hx : ∀ F v, R.r F v x → v = kV k) (hd : EV X b Γ e2 (im (rD S) kvs)) (hm : behindInMarks .In e2 = false := by rfl) : EV X b Γ (.Compare e1 [.In] [e2] pos) (im rB (kget kvs k).isSome) := EV.of (pe_cmp (pc_din hu pe_w pe_w) hm) (EvS.mki fun σ F H l g d Q q =>
  hk σ F H l g d _ fun v F1 H1 l1 w1 p1 _ => hd σ F1 H1 l (g.grow w1) (d.grow g.t w1) _ fun u F2 H2 l2 w2 ⟨_, a, ws, h1, h2, h3⟩ _ => by
    refine ⟨a, valV ws k, h1, ?_, ?_⟩
    · rw [hx F1 v p1.2]; exact DGet.k (w2.e a _ h2)
    · refine q _ F2 H2 (w1.trans w2) ?_
      have t := h3.get k
      show V.bl _ = V.bl _
      cases z : kget kvs k with
      | none => rw [z] at t; rw [t]; rfl
      | some y => rw [z] at t; obtain ⟨u, t, _⟩ := t; rw [t]; rfl)
theorem TV.inD (hu : X.A.units + 1 < cLine) (hk : EV X b Γ e1 (im R x)) (hx : ∀ F v, R.r F v x → v = kV k) (hd : EV X b Γ e2 (im (rD S) kvs)) (hm : behindInMarks .In e2 = false := by rfl) : TV X b Γ (.Compare e1 [.In] [e2] pos) (kget kvs k).isSome := TV.of (pt_cmp (pc_din hu pe_w pe_w) hm) (TvS.testB (EvS.mki fun σ F H l g d Q q =>
  hk σ F H l g d _ fun v F1 H1 l1 w1 p1 _ => hd σ F1 H1 l (g.grow w1) (d.grow g.t w1) _ fun u F2 H2 l2 w2 ⟨_, a, ws, h1, h2, h3⟩ _ => by
    refine ⟨a, valV ws k, h1, ?_, ?_⟩
    · rw [hx F1 v p1.2]; exact DGet.k (w2.e a _ h2)
    · refine q _ F2 H2 (w1.trans w2) ?_
      have t := h3.get k
      show V.bl _ = V.bl _
      cases z : kget kvs k with
      | none => rw [z] at t; rw [t]; rfl
      | some y => rw [z] at t; obtain ⟨u, t, _⟩ := t; rw [t]; rfl))
theorem EV.ninD (hu : X.A.units + 1 < cLine) (hk : EV X b Γ e1 (im R x)) (hx : ∀ F v, R.r F v x → v = kV k) (hd : EV X b Γ e2 (im (rD S) kvs)) (hm : behindInMarks .NotIn e2 = false := by rfl) : EV X b Γ (.Compare e1 [.NotIn] [e2] pos) (im rB (!(kget kvs k).isSome)) := EV.of (pe_cmp (pc_dnotin hu pe_w pe_w) hm) (EvS.mki fun σ F H l g d Q q =>
  hk σ F H l g d _ fun v F1 H1 l1 w1 p1 _ => hd σ F1 H1 l (g.grow w1) (d.grow g.t w1) _ fun u F2 H2 l2 w2 ⟨_, a, ws, h1, h2, h3⟩ _ => by
    refine ⟨a, valV ws k, h1, ?_, ?_⟩
    · rw [hx F1 v p1.2]; exact DGet.k (w2.e a _ h2)
    · refine q _ F2 H2 (w1.trans w2) ?_
      have t := h3.get k
      show V.bl _ = V.bl _
      cases z : kget kvs k with
      | none => rw [z] at t; rw [t]; rfl
      | some y => rw [z] at t; obtain ⟨u, t, _⟩ := t; rw [t]; rfl)
theorem TV.ninD (hu : X.A.units + 1 < cLine) (hk : EV X b Γ e1 (im R x)) (hx : ∀ F v, R.r F v x → v = kV k) (hd : EV X b Γ e2 (im (rD S) kvs)) (hm : behindInMarks .NotIn e2 = false := by rfl) : TV X b Γ (.Compare e1 [.NotIn] [e2] pos) (!(kget kvs k).isSome) := TV.of (pt_cmp (pc_dnotin hu pe_w pe_w) hm) (TvS.testB (EvS.mki fun σ F H l g d Q q =>
  hk σ F H l g d _ fun v F1 H1 l1 w1 p1 _ => hd σ F1 H1 l (g.grow w1) (d.grow g.t w1) _ fun u F2 H2 l2 w2 ⟨_, a, ws, h1, h2, h3⟩ _ => by
    refine ⟨a, valV ws k, h1, ?_, ?_⟩
    · rw [hx F1 v p1.2]; exact DGet.k (w2.e a _ h2)
    · refine q _ F2 H2 (w1.trans w2) ?_
      have t := h3.get k
      show V.bl _ = V.bl _
      cases z : kget kvs k with
      | none => rw [z] at t; rw [t]; rfl
      | some y => rw [z] at t; obtain ⟨u, t, _⟩ := t; rw [t]; rfl))
theorem EV.getD {v : β} (hu : X.A.units + 1 < cLine) (hd : EV X b Γ e1 (im (rD S) kvs)) (hk : EV X b Γ e2 (im R x)) (hx : ∀ F v, R.r F v x → v = kV k) (hv : kget kvs k = some v) (hs : NoSl e2 := by exact (fun _ _ => rfl)) : EV X b Γ (.Subscript e1 e2 pos) (im S v) := EV.of (pe_dget hu pe_w pe_w hs) (EvS.mki fun σ F H l g d Q q =>
  hd σ F H l g d _ fun u F1 H1 l1 w1 ⟨_, a, ws, h1, h2, h3⟩ _ => hk σ F1 H1 l (g.grow w1) (d.grow g.t w1) _ fun v' F2 H2 l2 w2 p2 _ => by
    have t := h3.get k
    rw [hv] at t
    obtain ⟨z, t1, t2⟩ := t
    refine ⟨a, z, h1, ?_, q z F2 H2 (w1.trans w2) (S.m w2.f t2)⟩
    rw [hx F2 v' p2.2, ← t1]
    exact DGet.k (w2.h a _ (w1.e a _ h2)))
/-- name = {..}: a dict comprehension that ends in the store of a local name -/
theorem ps_setDc {X : Cx} {i : Nat} {y : Str} {py : Pos} {kx vx tg iter : Expr} {ifs : List Expr} {scope : Scope} {own : List (Str × Nat)} {pos spos : Pos} {wi : TI} {g : TG} {tt : TT} {tk tv : TE} (hcalm : X.calm = true) (hnd : X.N.Nodup) (hy : X.N[i]? = some y) (hloc : X.env.scope.names.lookup y = some .local)
    (hswap : swapsWith (.DictComp kx vx [⟨tg, iter, ifs, 0⟩] scope pos) (some (.Name y py)) spos.line X.env = pure true) (hiter : PI X tg iter wi) (hblk : BlkOk X.N X.env.scope scope own)
    (htg : ∀ (s : Shared) (H : Hp) (C : Addr) (cl : List (Str × Addr)) (fp : List Addr), PG (X.blk s H scope (compEnvC scope cl C X.env) fp) tg g) (htt : ∀ (s : Shared) (H : Hp) (C : Addr) (cl : List (Str × Addr)) (fp : List Addr), PTs (X.blk s H scope (compEnvC scope cl C X.env) fp) ifs tt)
    (hkey : ∀ (s : Shared) (H : Hp) (C : Addr) (cl : List (Str × Addr)) (fp : List Addr), PE (X.blk s H scope (compEnvC scope cl C X.env) fp) kx tk) (hval : ∀ (s : Shared) (H : Hp) (C : Addr) (cl : List (Str × Addr)) (fp : List Addr), PE (X.blk s H scope (compEnvC scope cl C X.env) fp) vx tv)
    (hfold : ∀ x, foldedSetIterable iter X.env x = pure x) : PS X (.Assign [.Name y py] (.DictComp kx vx [⟨tg, iter, ifs, 0⟩] scope pos) spos) (tAsg (tDc wi g tt tk tv (own.map (·.2))) (gName i)) := by
  refine ⟨fun pins s σ H D J hq => ?_⟩
  rw [exec_Assign_Name_used _ _ _ _ hswap]
  refine wpAny_bind (wpAny_standAt (wpAny_bind ?_))
  show wpAny _ X.A (do let _ ← comprehension (.DictComp kx vx [⟨tg, iter, ifs, 0⟩] scope pos) scope X.env (firstIterPos [⟨tg, iter, ifs, 0⟩] pos) newDict false (eval iter X.env) (some (assign (.Name y py) X.env))) _ _ s
  have hq : tDc wi g tt tk tv (own.map (·.2)) σ H (fun x H1 => gName i x σ H1 D.nx) := hq
  refine wpAny_bind (thn (dc_core (Qf := fun _ s' => SP X pins D .next s') hcalm hnd J hiter hblk htg htt hkey hval hfold hq fun L C s' m H' J' done hn f => ?_) fun _ s' z => wpAny_pure (wpAny_pure z))
  show wpAny _ _ (assign (.Name y py) X.env (.ref L)) _ _ _
  refine wpAny_assign_Name (store_ok2 (v := V.ref L) J' hnd hy (.inl hloc) rfl (fun s2 J2 ⟨a, sb, ha⟩ => ?_) (.inr hloc))
  have ne : C ≠ a := by
    rcases ha with z | z
    · rw [z]; exact f.2.1
    · exact fun e => f.2.2.2.2.1 y a z e.symm
  exact ⟨m, hn.sameBut sb ne, fun h3 sb3 => ⟨_, H', J2.turned (t' := s2.toks) (fun b o hb e => (sb3.2 b hb).trans e) f.1 f.2.1 f.2.2.2.1 f.2.2.2.2.1 f.2.2.2.2.2, done⟩⟩
theorem sw_dict {kx vx : Expr} {gs : List Comprehension} {scope : Scope} {pos py : Pos} {y : Str} {l : Nat} {env : Env} (hk : env.scope.kind = .function) (hy : env.scope.names.lookup y = some .local) (hl : (py.line == pos.line) = true)
    (ha : (scope.names.any fun (n, k) => n == y && (k == .local || k == .cell)) = false) : swapsWith (.DictComp kx vx gs scope pos) (some (.Name y py)) l env = pure true := by
  have k1 : env.kindOf y = some .local := hy
  have k2 : env.blockKind = .function := by unfold Env.blockKind; rw [hk]; rfl
  unfold swapsWith
  simp only [k2, k1, ha, Expr.pos, hl]
  rfl
/-- {kx: vx for n in xs} -/
theorem LV.dcL0 (kf : α → Key) (vf : α → β) (hi : IV X b Γ (.Name n np) iter as.length (IL R as)) (nd : X.N.Nodup) (ok : blkC X.N X.env.scope scope [(n, j)] = true) (hm : as.length ≤ 50000)
    (hk : ∀ (b' : Bs) (i : Nat) (a : α) s H0 C cl fp, b'.B = b.B → as[i]? = some a → ∃ (κ : Type) (Rk : Rl κ) (z : κ), EV (X.blk s H0 scope (compEnvC scope cl C X.env) fp) b' (Sb Γ j (mk R a)) kx (im Rk z) ∧ ∀ F v, Rk.r F v z → v = kV (kf a))
    (hv : ∀ (b' : Bs) (i : Nat) (a : α) s H0 C cl fp, b'.B = b.B → as[i]? = some a → EV (X.blk s H0 scope (compEnvC scope cl C X.env) fp) b' (Sb Γ j (mk R a)) vx (im S (vf a)))
    (hg : ∀ (s : Shared) (H0 : Hp) (C : Addr) (cl : List (Str × Addr)) (fp : List Addr), PG (X.blk s H0 scope (compEnvC scope cl C X.env) fp) (.Name n np) (gName j)) (hc : X.calm = true := by rfl) (hf : ∀ x, foldedSetIterable iter X.env x = pure x := by intro _; rfl) :
    LV X b Γ (.DictComp kx vx [⟨.Name n np, iter, [], 0⟩] scope pos) (owD S (as.foldl (fun kvs a => kput kvs (kf a) (vf a)) [])) := by
  obtain ⟨wi, p1, k1⟩ := hi
  refine ⟨_, pe_dc (own := [(n, j)]) (g := gName j) (tt := tYes) (tk := wEb X scope kx) (tv := wEb X scope vx) hc nd p1 (blkOk_by ok) hg (fun _ _ _ _ _ => pts_nil) (fun _ _ _ _ _ => pe_wb) (fun _ _ _ _ _ => pe_wb) hf, fun σ F H l g d Q q => ?_,
    fun i y py spos hi hy hsw => ps_setDc (own := [(n, j)]) (g := gName j) (tt := tYes) (tk := wEb X scope kx) (tv := wEb X scope vx) hc nd hi hy hsw p1 (blkOk_by ok) hg (fun _ _ _ _ _ => pts_nil) (fun _ _ _ _ _ => pe_wb) (fun _ _ _ _ _ => pe_wb) hf⟩
  refine k1 σ F H l g d _ fun J F1 H1 w ⟨G, Y, W, hG, hY⟩ D hD => ?_
  have d1 := d.grow g.t w
  have g1 := g.grow w
  obtain ⟨l2, g2, nd2, sub2⟩ := SgL.put (o' := none) (w := none) (l' := []) trivial List.nodup_nil j g1 d1.nd (fun _ h => nomatch h)
  have sub2 : ∀ a ∈ l2, a ∈ l := fun a ha => by
    rcases sub2 a ha with z | z
    · exact z
    · cases z
  have d2 : Gd ⟨F1, b.B⟩ F1 H1 l2 := d1.self.of_l nd2 fun a ha => ⟨d1.of a (sub2 a ha), d1.ob a (sub2 a ha)⟩
  have nB : b.B D = none := ex_none d1.eb hD
  have nF : F1 D = none := ex_none d1.e hD
  have nl : D ∉ l2 := fun z => g1.t D (sub2 D z) hD
  have c0 : Cv b F1 H1 (Γ.set j none) (σ.set j none) D l2 F1 (upd H1 D (.dK [])) := Cv.upd ⟨g2, d2, Gw.refl d1.e, nl, nB, nF, hD⟩
  -- the walk
  let Pv : Nat → Hp → Prop := fun i H' => ∃ F' ws, Cv b F1 H1 (Γ.set j none) (σ.set j none) D l2 F' H' ∧ H' D = some (.dK ws) ∧ KvR (S.r F') ws ((as.take i).foldl (fun kvs a => kput kvs (kf a) (vf a)) []) ∧ i ≤ as.length ∧ ws.length ≤ i
  refine ⟨fun i m H => m = as.length - i ∧ i ≤ as.length ∧ Pv i H, ⟨as.length, by simp, Nat.zero_le _, F1, [], c0, upd_same, .nil, Nat.zero_le _, Nat.zero_le _⟩, ?_⟩
  rintro i m H' ⟨rfl, hi, F', ws, c, ha, hkv, hi', hlen⟩
  have hGG := hG F' H' c.d.ef c.d.e
  by_cases hlt : i < as.length
  · refine .inr ⟨W.goes i H' hlt hGG, Pv (i + 1), fun H'' p' => ⟨as.length - (i + 1), by omega, rfl, hlt, p'⟩, fun v H'' y => ?_⟩
    have y := W.yields i H' v H'' hlt hGG y
    obtain ⟨F'', y0, w', ⟨a, ha0, rfl⟩, r2⟩ := hY i F' H' v H'' hlt c.d.ef c.d.e y
    have hDn : H' D ≠ none := by rw [ha]; exact fun z => nomatch z
    have c2 := c.grow hDn w'
    have ha2 : H'' D = some (.dK ws) := w'.h D _ ha
    have hD2 : H'' D ≠ none := by rw [ha2]; exact fun z => nomatch z
    refine ⟨(by show ((σ.set j none).set j (some v)).set j none = σ.set j none; rw [List.set_set, List.set_set]), ?_⟩
    simp only [tYes, ↓reduceIte]
    obtain ⟨l3, g3, nd3, sub3⟩ := SgL.put (o' := some (im R a)) (w := some v) (l' := []) ⟨v, rfl, rfl, r2⟩ List.nodup_nil j c2.g c2.d.nd (fun _ h => nomatch h)
    have sub3 : ∀ a ∈ l3, a ∈ l2 := fun a ha => by
      rcases sub3 a ha with z | z
      · exact z
      · cases z
    have d3 : Gd ⟨F1, b.B⟩ F'' H'' l3 := c2.d.of_l nd3 fun a ha => ⟨c2.d.of a (sub3 a ha), c2.d.ob a (sub3 a ha)⟩
    intro s H0 C cl fp
    obtain ⟨κ, Rk, z, he, hz⟩ := hk ⟨F1, b.B⟩ i a s H0 C cl fp rfl ha0
    refine he _ F'' H'' l3 g3 d3 _ fun u F3 H3 l4 w3 p3 _ => ?_
    intro s H0 C cl fp
    refine hv ⟨F1, b.B⟩ i a s H0 C cl fp rfl ha0 _ F3 H3 l3 (g3.grow w3) (d3.grow g3.t w3) _ fun u2 F4 H4 l5 w4 p4 _ => ?_
    have c3 := c2.grow hD2 w3
    have hD3 : H3 D ≠ none := by rw [w3.h D _ ha2]; exact fun z => nomatch z
    have c4 := c3.grow hD3 w4
    have a4 := w4.h D _ (w3.h D _ ha2)
    refine ⟨ws, kf a, hz _ _ p3.2, a4, sz_lt (by omega), F4, putK ws (kf a) u2, c4.upd, upd_same, ?_, hlt, Nat.le_trans (length_putK _ _ _) (by omega)⟩
    have e : as.take (i + 1) = as.take i ++ [a] := by
      rw [List.take_add_one, ha0]; rfl
    rw [e, List.foldl_append]
    exact KvR.put (kf a) p4.2 (hkv.imp fun _ _ => S.m ((w'.f.trans w3.f).trans w4.f))
  · have e : i = as.length := by omega
    subst e
    refine .inl ⟨W.stops H' hGG, q (.ref D) F' H' [D] (w.trans c.w) ⟨D, ws, rfl, rfl, ha, by rw [List.take_length] at hkv; exact hkv⟩ fun a h => by rw [List.mem_singleton.mp h]; exact ⟨ex_none w.h hD, c.nF⟩⟩
theorem kget_put (kvs : List (Key × β)) (k k' : Key) (v : β) : (kget (kput kvs k v) k').isSome = ((kget kvs k').isSome || decide (k = k')) := by
  have hany : ∀ (kvs : List (Key × β)) (k : Key), (kget kvs k).isSome = kvs.any fun kv => decide (kv.1 = k) := by
    intro kvs k
    induction kvs with
    | nil => rfl
    | cons p r ih =>
      by_cases z : p.1 = k
      · simp [kget, List.find?_cons, z]
      · have : kget (p :: r) k = kget r k := by simp [kget, List.find?_cons, z]
        rw [this, ih, List.any_cons]; simp [z]
  rw [hany, hany]
  unfold kput
  split
  · rename_i h
    rw [List.any_map]
    have e : ((fun kv : Key × β => decide (kv.1 = k')) ∘ fun kv => if kv.1 = k then (kv.1, v) else kv) = fun kv => decide (kv.1 = k') := by
      funext kv
      show decide ((if kv.1 = k then (kv.1, v) else kv).1 = k') = _
      split <;> rfl
    rw [e]
    by_cases z : k = k'
    · subst z; simp [h]
    · simp [z]
  · rw [List.any_append]; simp
theorem keys_in (kf : α → Key) (vf : α → β) (k : Key) : ∀ (as : List α) (kvs : List (Key × β)), (kget (as.foldl (fun kvs a => kput kvs (kf a) (vf a)) kvs) k).isSome = ((kget kvs k).isSome || as.any fun a => decide (kf a = k))
  | [], kvs => by simp
  | a :: as, kvs => by rw [List.foldl_cons, keys_in kf vf k as, kget_put, Bool.or_assoc, List.any_cons]
theorem HT.frzD {C : EndC} {sts : List Stmt} (i : Nat) (hΓ : Γ[i]? = some (some (owD S kvs))) (k : HT X b C (Γ.set i (some (im (rD S) kvs))) sts) : HT X b C Γ sts := fun σ F H ⟨l, g, d⟩ => by
  obtain ⟨v, l1, h1, ⟨p, xs, rfl, rfl, h4, h5⟩, h6, h7⟩ := g.frz d.nd hΓ
  have hp := h6 p (List.mem_singleton.mpr rfl)
  have fp := d.of p hp
  obtain ⟨l2, k1, k2, k3⟩ := h7 (upd F p (.dK xs)) (im (rD S) kvs) (Ex.new fp) ⟨rfl, p, xs, rfl, upd_same, h5.imp fun _ _ => S.m (Ex.new fp)⟩
  refine k σ (upd F p (.dK xs)) H ⟨l2, k1, d.ef.trans (Ex.new fp), d.eb, fun a u ha => ?_, fun a q1 q2 => ?_, k2, fun a ha => ?_, fun a ha => d.ob a (k3 a ha).1⟩
  · by_cases z : a = p
    · subst z; rw [upd_same] at ha; rw [h4]; exact ha
    · rw [upd_ne z] at ha; exact d.e a u ha
  · rw [upd_ne fun z => q2 (by rw [z]; exact d.ob p hp)]; exact d.k a q1 q2
  · rw [upd_ne fun z => (k3 a ha).2 (List.mem_singleton.mpr z)]; exact d.of a (k3 a ha).1
end
end Lg

namespace Lg
open PySem L2 Evl PyProof.Rows
/-- some text -/
def anyStr : Sl where
  P := fun _ _ v l => l = [] ∧ ∃ z : Str, v = .str z
  m := fun _ _ h => h
  t := fun h a ha => by rw [h.1] at ha; cases ha
  d := fun h => by rw [h.1]; exact List.nodup_nil
/-- parts of an f-string: some text of a bounded length -/
def JV (X : Cx) (b : Bs) (Γ : Ctx) (es : List Expr) (n : Nat) : Prop := ∃ ts, PJ X es ts ∧ ∀ σ F H l (acc : Str), SgL F H Γ σ l → Gd b F H l → acc.length + n ≤ sizeLine → ∀ Q : Str → Hp → Prop, (∀ z F' H', Gw F H F' H' → Q z H') → tJs ts acc σ H Q
section
variable {X : Cx} {b : Bs} {Γ : Ctx} {e : Expr} {es : List Expr} {n : Nat} {pos : Pos} {i : Int} {z : Str}
theorem str_app_len (x y : Str) : (x ++ y).length = x.length + y.length := by
  show (x.cps ++ y.cps).size = x.cps.size + y.cps.size
  exact Array.size_append
theorem JV.nil : JV X b Γ [] 0 := ⟨[], .nil, fun σ F H l acc g d _ Q q => q acc F H (Gw.refl d.e)⟩
theorem JV.str {j : Nat} (k : JV X b Γ es n) : JV X b Γ (.Constant (.str z) j pos :: es) (z.length + n) := by
  obtain ⟨ts, p, k⟩ := k
  exact ⟨_, .cons pe_str p, fun σ F H l acc g d hl Q q => ⟨z, rfl, by rw [str_app_len]; omega, k σ F H l (acc ++ z) g d (by rw [str_app_len]; omega) Q q⟩⟩
theorem JV.int (h : EV X b Γ e (im rI i)) (hi : i.natAbs.log2 < 1920) (k : JV X b Γ es n) : JV X b Γ (.FormattedValue e (-1) none pos :: es) (1921 + n) := by
  obtain ⟨ts, p, k⟩ := k
  refine ⟨_, .cons (pe_fmt pe_w) p, fun σ F H l acc g d hl Q q => h σ F H l g d _ fun v F1 H1 l1 w p1 _ => .inr ⟨i, p1.2, hi, ?_⟩⟩
  have hb : (toString i : Str).length ≤ 1921 := int_text_len_1921 hi
  exact ⟨_, rfl, by rw [str_app_len]; omega, k σ F1 H1 l _ (g.grow w) (d.grow g.t w) (by rw [str_app_len]; omega) Q fun z F' H' w' => q z F' H' (w.trans w')⟩
theorem JV.txt (h : EV X b Γ e (im rS z)) (hz : z.length ≤ sizeLine) (k : JV X b Γ es n) : JV X b Γ (.FormattedValue e (-1) none pos :: es) (z.length + n) := by
  obtain ⟨ts, p, k⟩ := k
  refine ⟨_, .cons (pe_fmt pe_w) p, fun σ F H l acc g d hl Q q => h σ F H l g d _ fun v F1 H1 l1 w p1 _ => .inl ⟨z, p1.2, hz, ?_⟩⟩
  exact ⟨_, rfl, by rw [str_app_len]; omega, k σ F1 H1 l _ (g.grow w) (d.grow g.t w) (by rw [str_app_len]; omega) Q fun z F' H' w' => q z F' H' (w.trans w')⟩
theorem EV.fstr {v1 v2 : Expr} {rest : List Expr} (k : JV X b Γ (v1 :: v2 :: rest) n) (hn : n ≤ sizeLine) : EV X b Γ (.JoinedStr (v1 :: v2 :: rest) pos) anyStr := by
  obtain ⟨ts, p, k⟩ := k
  exact EV.of (pe_joined p) fun σ F H l g d Q q => k σ F H l Str.empty g d (by rw [show Str.empty.length = 0 from rfl]; omega) _ fun z F' H' w => q _ F' H' [] w ⟨rfl, z, rfl⟩ fun _ h => nomatch h
/-- any text is data enough for a raise -/
theorem EV.strAny (h : EV X b Γ e (im rS z)) : EV X b Γ e anyStr := fun σ F H l g d Q q => h σ F H l g d Q fun v F' H' l' w p f => q v F' H' l' w ⟨p.1, z, p.2⟩ f
end
end Lg

namespace Lg
open PySem L2 Evl PyProof.Rows
/-! ### results that are told by a property -/
def EVR (X : Cx) (b : Bs) (Γ : Ctx) (e : Expr) (post : Sl → Prop) : Prop := ∀ σ F H l, SgL F H Γ σ l → Gd b F H l → ∀ Q : VK, (∀ s v F' H' l', post s → Gw F H F' H' → s.P F' H' v l' → (∀ a ∈ l', H a = none ∧ F' a = none) → Q v H') → wE X e σ H Q
def spR {ι : Type} (A : ι → List Im) (pre : ι → Prop) (post : ι → Sl → Prop) : Sp := fun vs H Q _ => ∃ (i : ι) (F : Hp), Ex F H ∧ Ims F vs (A i) ∧ pre i ∧ ∀ s, post i s → ∀ v F' H' l', Gw F H F' H' → s.P F' H' v l' → (∀ a ∈ l', H a = none ∧ F' a = none) → Q v H'
section
variable {X : Cx} {b : Bs} {C : EndC} {Γ : Ctx} {k : Nat} {x n : Str} {ps : List Str} {ι α β : Type} {A : ι → List Im} {pre : ι → Prop} {post : ι → Sl → Prop} {po : Sl → Prop} {i : ι} {e : Expr} {es : List Expr} {p pos pos' : Pos} {W : WX} {rest : List Stmt}
theorem EVR.call (T : Kn X.prog X.w X.K X.mg X.base k x ps (spR A pre post)) (hr : Room k X.A) (tk : L2N.Takes X W) (ha : AV X b Γ (e :: es) (A i)) (hp : pre i) (hg : Gl X x := by rfl)
    (hdb : (x == ("__debug__" : Str)) = false := by decide) (he : starEach (e :: es) X.env = (false, eval e X.env) :: starEach es X.env := by rfl) (hpl : (backTo pos (starEach es X.env)).any (·.1) = false := by rfl) : EVR X b Γ (.Call (.Name x p) (e :: es) [] pos) (post i) := by
  obtain ⟨ta, p1, p2⟩ := ha
  obtain ⟨f, fd, Fn, hm, hk, hb⟩ := T.ex
  refine fun σ F H l g d Q q => wE.of (pe_callS Fn hr hg hm hk hb (fun σ => L2N.passAt tk σ) p1 hdb he hpl) (p2 σ F H l g d _ fun vs F1 H1 w hv => ?_)
  refine ⟨i, F1, w.e, hv, hp, fun s hs v F' H' l' w' p f => q s v F' H' l' hs (w.trans w') p fun a ha => ⟨ex_none w.h (f a ha).1, (f a ha).2⟩⟩
theorem HT.setR (j : Nat) (he : EVR X b Γ e po) (k : ∀ s, po s → HT X b C (Γ.set j (some s)) rest) (nd : X.N.Nodup) (hi : X.N[j]? = some n := by rfl) (hx : Loc X.env.scope n := by first | exact Or.inl rfl | exact Or.inr rfl) (hs : swapsWith e (some (.Name n pos')) pos.line X.env = pure false := by rfl)
    (hf : X.fn n = true ∨ X.env.scope.names.lookup n = some .local := by first | exact .inl rfl | exact .inr rfl | assumption) : HT X b C Γ (.Assign [.Name n pos'] e pos :: rest) :=
  HT.step (ps_set nd hi hx pe_w hs hf) fun σ F H ⟨l, g, d⟩ => he σ F H l g d _ fun s v F' H' l' hs w p f => k s hs _ _ _ (Sg.put j g d w p f)
/-- data told in another way -/
theorem HT.cv {R : Rl α} {S : Rl β} {x : α} {y : β} {sts : List Stmt} (j : Nat) (hΓ : Γ[j]? = some (some (im R x))) (h : ∀ F v, R.r F v x → S.r F v y) (k : HT X b C (Γ.set j (some (im S y))) sts) : HT X b C Γ sts := fun σ F H ⟨l, g, d⟩ => by
  obtain ⟨v, l1, h1, ⟨rfl, h2⟩, h3, h4⟩ := g.mod d.nd hΓ
  exact k σ F H ⟨l, h4 H (im S y) (fun _ _ => rfl) ⟨rfl, h F v h2⟩, d⟩
end
section
variable {P : Program} {w : World} {K : PySem.W.Frag} {mg : Str → Option Value} {base : Heap} {x qual : Str} {st : Stmt} {f : Addr} {fd : FuncData} {N ps : List Str} {k : Nat} {ι : Type} {A : ι → List Im} {pre : ι → Prop} {post : ι → Sl → Prop}
theorem fn_okR (F : Fun K x qual st f fd) (S : FnScope N ps (defScope st)) (hA : ∀ i, (A i).length = ps.length)
    (body : ∀ (i : ι) (B : Bs) (cdv : Value) (A' : Around) (outer : List Env) (s : Shared) (H : Hp) (E : XK), pre i → Room k (A'.deeper (envOfC qual (defScope st) s.heap.objs.size f cdv)) →
      HT (cxOf (L2N.CX P w) P w K mg base N qual (defScope st) f cdv A' outer s H E) B ⟨fun _ => post i (im rU ()), post i, fun _ => False, fun _ => False⟩ (c0 (A i) (N.length - ps.length)) (defBody st)) :
    FnOk P w K mg base (L2N.CX P w) (k + 1) f fd ps (spR A pre post) := by
  refine okN F S (fun vs H Q E ⟨i, F, _, hv, _⟩ => by rw [hv.len, hA i]) fun cdv A' outer s H vs Q E hr ⟨i, F0, hF, hv, hp, h1⟩ => ⟨_, pss_w, ?_⟩
  have hn : vs.length = ps.length := by rw [hv.len, hA i]
  have g0 : Sg ⟨F0, H⟩ (c0 (A i) (N.length - ps.length)) (L2.start N vs) F0 H := ⟨[], by
    unfold L2.start
    rw [hn]
    exact SgL.args _ hv, Ex.refl _, Ex.refl _, hF, fun _ h _ => h, List.nodup_nil, fun _ h => (nomatch h), fun _ h => nomatch h⟩
  refine wS.mono (body i ⟨F0, H⟩ cdv A' outer s H E hp hr _ F0 H g0) (fun σ' H' h => ?_) (fun v H' h => ?_) (fun _ _ h => ?_) (fun _ _ h => ?_)
  · obtain ⟨Γ, F', ⟨l, _, d⟩, h⟩ := h
    exact h1 (im Lg.rU ()) h .non F' H' [] ⟨d.ef, d.eb, d.e, fun a q1 q2 => d.k a q1 q2⟩ ⟨rfl, rfl⟩ fun _ h => nomatch h
  · obtain ⟨s', F', l, p, d, h⟩ := h
    exact h1 _ h v F' H' l ⟨d.ef, d.eb, d.e, fun a q1 q2 => d.k a q1 q2⟩ p fun a ha => ⟨d.ob a ha, d.of a ha⟩
  · obtain ⟨_, _, _, h⟩ := h; exact h.elim
  · obtain ⟨_, _, _, h⟩ := h; exact h.elim
end
theorem rQ.ofL {α : Type} {R : Rl α} {F : Hp} {v : V} {l : List α} (h : (rL R).r F v l) : (rQ R).r F v (false, l) := ⟨fun z => (nomatch z), fun _ => h⟩
theorem rQ.ofT {α : Type} {R : Rl α} {F : Hp} {v : V} {l : List α} (h : (rT R).r F v l) : (rQ R).r F v (true, l) := ⟨fun _ => h, fun z => (nomatch z)⟩
theorem rL.conv {α β : Type} {R : Rl α} {S : Rl β} {F : Hp} {v : V} (f : α → β) {as : List α} (h : ∀ a ∈ as, ∀ v, R.r F v a → S.r F v (f a)) (k : (rL R).r F v as) : (rL S).r F v (as.map f) := by
  obtain ⟨p, xs, h1, h2, h3⟩ := k
  refine ⟨p, xs, h1, h2, ?_⟩
  clear h2 h1
  induction h3 with
  | nil => exact .nil
  | cons x t ih => exact .cons (h _ List.mem_cons_self _ x) (ih fun a ha => h a (List.mem_cons_of_mem _ ha))
end Lg

namespace Lg
open PySem L2 Evl PyProof.Rows
/-- what never comes -/
def noS : Sl := ⟨fun _ _ _ _ => False, fun _ _ h => h, fun h => h.elim, fun h => h.elim⟩
section
variable {X : Cx} {b : Bs} {D : EndC} {Γ : Ctx} {e e1 e2 : Expr} {es : List Expr} {α β : Type} {R : Rl α} {S : Rl β} {x y : α} {n : Str} {pos p pos' : Pos} {rest : List Stmt} {c : Bool} {ι : Type} {A : ι → List Im} {pre : ι → Prop} {i : ι} {ps : List Str} {k : Nat} {C : Addr} {W : WX} {cx : Str}
theorem HT.exprNo (he : EV X b Γ e noS) (hs : swapsWith e none pos.line X.env = pure false := by rfl) : HT X b D Γ (.Expr e pos :: rest) :=
  HT.step (ps_expr pe_w hs) fun σ F H ⟨l, g, d⟩ => he σ F H l g d _ fun v F' H' l' w p f => p.elim
theorem HT.setNo (j : Nat) (he : EV X b Γ e noS) (nd : X.N.Nodup) (hi : X.N[j]? = some n := by rfl) (hx : Loc X.env.scope n := by first | exact Or.inl rfl | exact Or.inr rfl) (hs : swapsWith e (some (.Name n pos')) pos.line X.env = pure false := by rfl)
    (hf : X.fn n = true ∨ X.env.scope.names.lookup n = some .local := by first | exact .inl rfl | exact .inr rfl | assumption) : HT X b D Γ (.Assign [.Name n pos'] e pos :: rest) :=
  HT.step (ps_set nd hi hx pe_w hs hf) fun σ F H ⟨l, g, d⟩ => he σ F H l g d _ fun v F' H' l' w p f => p.elim
/-- C(..), whatever comes of it -/
theorem EV.makeG {S : Rl β} {s : Sl} {ri : ι → Except Addr β} (T : KnI X.prog X.w X.K X.mg X.base k C cx ps (spI C A pre S ri)) (hr : Room (k + 1) X.A) (tk : L2N.Takes X W) (ha : AV X b Γ (e :: es) (A i)) (hp : pre i) (h1 : ∀ y', ri i = .ok y' → im S y' = s) (h2 : ∀ C, ri i = .error C → Xw b Γ W C) (hg : Gl X cx := by rfl)
    (hdb : (cx == ("__debug__" : Str)) = false := by decide) (he : starEach (e :: es) X.env = (false, eval e X.env) :: starEach es X.env := by rfl) (hpl : (backTo pos (starEach es X.env)).any (·.1) = false := by rfl) : EV X b Γ (.Call (.Name cx p) (e :: es) [] pos) s := by
  obtain ⟨ta, p1, p2⟩ := ha
  obtain ⟨f, fd, F, hM, hm, hb⟩ := T.ex
  refine EV.of (pe_makeS hM F hr hg hm hb (fun σ => L2N.passAt tk σ) p1 hdb he hpl) fun σ F H l g d Q q => p2 σ F H l g d _ fun vs F1 H1 w hv => ?_
  refine fun x dx hx hdx ne => ⟨i, F1, H1, x, dx, vs, rfl, hx, hdx, ne, rfl, w.e, hv, hp, fun y' hy F' H' w' p => ?_, fun C hC H' h => ?_⟩
  · have e := h1 y' hy
    subst e
    exact ⟨rfl, q _ F' H' [] (w.trans w') ⟨rfl, p⟩ fun _ h => nomatch h⟩
  · have w2 := w.trans (Ex.gw w.e h)
    exact h2 C hC σ F1 H' ⟨l, g.grow w2, d.grow g.t w2⟩
theorem set_same {α : Type} : ∀ {l : List α} {i : Nat} {x : α}, l[i]? = some x → l.set i x = l
  | [], _, _, h => by simp at h
  | a :: l, 0, x, h => by simp at h; subst h; rfl
  | a :: l, i + 1, x, h => by
    show a :: l.set i x = a :: l
    rw [set_same (by simpa using h)]
/-- if e1: name = e2 -/
theorem HT.ifSet {ap : Pos} (j : Nat) (hΓ : Γ[j]? = some (some (im R x))) (h : TV X b Γ e1 c) (h1 : c = true → EV X b Γ e2 (im R y)) (k : HT X b D (Γ.set j (some (im R (if c then y else x)))) rest) (nd : X.N.Nodup) (hi : X.N[j]? = some n := by rfl) (hx : Loc X.env.scope n := by first | exact Or.inl rfl | exact Or.inr rfl) (hs : swapsWith e2 (some (.Name n pos')) ap.line X.env = pure false := by rfl)
    (hf : X.fn n = true ∨ X.env.scope.names.lookup n = some .local := by first | exact .inl rfl | exact .inr rfl | assumption) : HT X b D Γ (.If e1 [.Assign [.Name n pos'] e2 ap] [] pos :: rest) := by
  refine HT.when h (fun hc => HT.set j (h1 hc) (HT.nil ?_) nd hi hx hs hf) fun hc => ?_
  · rw [if_pos hc] at k; exact k
  · rw [if_neg (by rw [hc]; decide), set_same hΓ] at k; exact k
end
end Lg

namespace Lg
open PySem L2 Evl PyProof.Rows
/-! ### what is data is locked: dicts and lists that no one changes any more -/
def rDK {β : Type} (S : Rl β) : Rl (List (Key × β)) :=
  ⟨fun F v kvs => ∃ a o ws, v = .ref a ∧ F a = some (.frz o (.dK ws)) ∧ KvR (S.r F) ws kvs, fun e ⟨a, o, ws, h1, h2, h3⟩ => ⟨a, o, ws, h1, e a _ h2, h3.imp fun _ _ => S.m e⟩⟩
def rLK {α : Type} (R : Rl α) : Rl (List α) :=
  ⟨fun F v as => ∃ a o xs, v = .ref a ∧ F a = some (.frz o (.lst xs)) ∧ All2 (R.r F) xs as, fun e ⟨a, o, xs, h1, h2, h3⟩ => ⟨a, o, xs, h1, e a _ h2, h3.imp fun _ _ => R.m e⟩⟩
theorem wE.alter {X : Cx} {e : Expr} {σ : L2.St} {H : Hp} {Q0 Q : VK} (h : wE X e σ H Q0) (k : ∀ pins s v H1, Inv X pins σ H1 s → Q0 v H1 → ∃ H2, Inv X pins σ H2 s ∧ Q v H2) : wE X e σ H Q := fun pins s I =>
  thn (h pins s I) fun u s1 ⟨v, H1, I1, r, q⟩ => by
    obtain ⟨H2, I2, q2⟩ := k pins s1 v H1 I1 q
    exact ⟨v, H2, I2, r, q2⟩
section
variable {X : Cx} {b : Bs} {Γ : Ctx} {α β γ : Type} {R : Rl α} {S : Rl β} {x : α} {y : β} {e e1 e2 : Expr} {pos np : Pos} {kvs : List (Key × β)} {k : Key} {as : List α} {n : Str} {C : EndC} {sts : List Stmt}
theorem EV.lkD (h : EV X b Γ e (owD S kvs)) : EV X b Γ e (im (rDK S) kvs) := fun σ F H l g d Q q =>
  wE.alter (Q0 := fun v H1 => ∃ p ws, v = .ref p ∧ H1 p = some (.dK ws) ∧ ∀ o, Q v (upd H1 p (.frz o (.dK ws)))) (h σ F H l g d _ fun v F' H' l' w ⟨p, ws, h1, h2, h3, h4⟩ f => by
    subst h1 h2
    obtain ⟨f1, f2⟩ := f p (List.mem_singleton.mpr rfl)
    refine ⟨p, ws, rfl, h3, fun o => q _ (upd F' p (.frz o (.dK ws))) _ [] ⟨w.f.trans (Ex.new f2), fun a u ha => ?_, fun a u ha => ?_, fun a h1 h2 => ?_⟩ ⟨rfl, p, o, ws, rfl, upd_same, h4.imp fun _ _ => S.m (Ex.new f2)⟩ fun _ z => nomatch z⟩
    · rw [upd_ne (ne_of_none ha f1)]; exact w.h a u ha
    · by_cases z : a = p
      · subst z; rw [upd_same] at ha ⊢; exact ha
      · rw [upd_ne z] at ha ⊢; exact w.e a u ha
    · rw [upd_ne fun z => h2 (by rw [z]; exact f1)]; exact w.k a h1 h2) fun pins s v H1 I ⟨p, ws, _, h3, q⟩ => by
    obtain ⟨od, I1⟩ := I.lock h3 trivial
    exact ⟨_, I1, q od⟩
theorem EV.lkL (h : EV X b Γ e (ow R as)) : EV X b Γ e (im (rLK R) as) := fun σ F H l g d Q q =>
  wE.alter (Q0 := fun v H1 => ∃ p xs, v = .ref p ∧ H1 p = some (.lst xs) ∧ ∀ o, Q v (upd H1 p (.frz o (.lst xs)))) (h σ F H l g d _ fun v F' H' l' w ⟨p, xs, h1, h2, h3, h4⟩ f => by
    subst h1 h2
    obtain ⟨f1, f2⟩ := f p (List.mem_singleton.mpr rfl)
    refine ⟨p, xs, rfl, h3, fun o => q _ (upd F' p (.frz o (.lst xs))) _ [] ⟨w.f.trans (Ex.new f2), fun a u ha => ?_, fun a u ha => ?_, fun a h1 h2 => ?_⟩ ⟨rfl, p, o, xs, rfl, upd_same, h4.imp fun _ _ => R.m (Ex.new f2)⟩ fun _ z => nomatch z⟩
    · rw [upd_ne (ne_of_none ha f1)]; exact w.h a u ha
    · by_cases z : a = p
      · subst z; rw [upd_same] at ha ⊢; exact ha
      · rw [upd_ne z] at ha ⊢; exact w.e a u ha
    · rw [upd_ne fun z => h2 (by rw [z]; exact f1)]; exact w.k a h1 h2) fun pins s v H1 I ⟨p, xs, _, h3, q⟩ => by
    obtain ⟨od, I1⟩ := I.lock h3 trivial
    exact ⟨_, I1, q od⟩
theorem HT.lkD (i : Nat) (hΓ : Γ[i]? = some (some (owD S kvs))) (k : HT X b C (Γ.set i (some (im (rDK S) kvs))) sts) : HT X b C Γ sts := fun σ F H ⟨l, g, d⟩ pins s I => by
  obtain ⟨v, l1, h1, ⟨p, ws, rfl, rfl, h4, h5⟩, h6, h7⟩ := g.frz d.nd hΓ
  have hp := h6 p (List.mem_singleton.mpr rfl)
  have fp := d.of p hp
  obtain ⟨od, I1⟩ := I.lock h4 trivial
  obtain ⟨l2, k1, k2, k3⟩ := h7 (upd F p (.frz od (.dK ws))) (im (rDK S) kvs) (Ex.new fp) ⟨rfl, p, od, ws, rfl, upd_same, h5.imp fun _ _ => S.m (Ex.new fp)⟩
  refine k σ (upd F p (.frz od (.dK ws))) (upd H p (.frz od (.dK ws))) ⟨l2, k1.m (Ex.refl _) (fun a ha => upd_ne fun z => (k3 a ha).2 (List.mem_singleton.mpr z)), d.ef.trans (Ex.new fp), Ex.mut d.eb (d.ob p hp), fun a u ha => ?_, fun a q1 q2 => ?_, k2, fun a ha => ?_, fun a ha => d.ob a (k3 a ha).1⟩ pins s I1
  · by_cases z : a = p
    · subst z; rw [upd_same] at ha ⊢; exact ha
    · rw [upd_ne z] at ha ⊢; exact d.e a u ha
  · rw [upd_ne fun z => q2 (by rw [z]; exact d.ob p hp)]; exact d.k a q1 q2
  · rw [upd_ne fun z => (k3 a ha).2 (List.mem_singleton.mpr z)]; exact d.of a (k3 a ha).1
theorem HT.lkL (i : Nat) (hΓ : Γ[i]? = some (some (ow R as))) (k : HT X b C (Γ.set i (some (im (rLK R) as))) sts) : HT X b C Γ sts := fun σ F H ⟨l, g, d⟩ pins s I => by
  obtain ⟨v, l1, h1, ⟨p, ws, rfl, rfl, h4, h5⟩, h6, h7⟩ := g.frz d.nd hΓ
  have hp := h6 p (List.mem_singleton.mpr rfl)
  have fp := d.of p hp
  obtain ⟨od, I1⟩ := I.lock h4 trivial
  obtain ⟨l2, k1, k2, k3⟩ := h7 (upd F p (.frz od (.lst ws))) (im (rLK R) as) (Ex.new fp) ⟨rfl, p, od, ws, rfl, upd_same, h5.imp fun _ _ => R.m (Ex.new fp)⟩
  refine k σ (upd F p (.frz od (.lst ws))) (upd H p (.frz od (.lst ws))) ⟨l2, k1.m (Ex.refl _) (fun a ha => upd_ne fun z => (k3 a ha).2 (List.mem_singleton.mpr z)), d.ef.trans (Ex.new fp), Ex.mut d.eb (d.ob p hp), fun a u ha => ?_, fun a q1 q2 => ?_, k2, fun a ha => ?_, fun a ha => d.ob a (k3 a ha).1⟩ pins s I1
  · by_cases z : a = p
    · subst z; rw [upd_same] at ha ⊢; exact ha
    · rw [upd_ne z] at ha ⊢; exact d.e a u ha
  · rw [upd_ne fun z => q2 (by rw [z]; exact d.ob p hp)]; exact d.k a q1 q2
  · rw [upd_ne fun z => (k3 a ha).2 (List.mem_singleton.mpr z)]; exact d.of a (k3 a ha).1
/-! ### a list of one's own, lent for an expression whose value tells of no open list -/
def NoL {β : Type} (S : Rl β) : Prop := ∀ {F F' : Hp} {v : V} {y : β}, (∀ a o, F a = some o → (∀ xs, o ≠ .lst xs) → (∀ ws, o ≠ .dK ws) → F' a = some o) → S.r F v y → S.r F' v y
theorem NoL.int : NoL rI := fun _ h => h
theorem NoL.bool : NoL rB := fun _ h => h
theorem NoL.str : NoL rS := fun _ h => h
theorem NoL.unit : NoL rU := fun _ h => h
theorem NoL.opt (h : NoL S) : NoL (rO S) := fun {F F' v y} k q => by
  cases y with
  | none => exact q
  | some z => exact h k q
theorem NoL.lk (h : NoL R) : NoL (rLK R) := fun k ⟨a, o, xs, h1, h2, h3⟩ => ⟨a, o, xs, h1, k a _ h2 (fun _ z => nomatch z) (fun _ z => nomatch z), h3.imp fun _ _ => h k⟩
theorem NoL.dk (h : NoL S) : NoL (rDK S) := fun k ⟨a, o, ws, h1, h2, h3⟩ => ⟨a, o, ws, h1, k a _ h2 (fun _ z => nomatch z) (fun _ z => nomatch z), h3.imp fun _ _ => h k⟩
theorem Fls.noL {F F' : Hp} (k : ∀ a o, F a = some o → (∀ xs, o ≠ .lst xs) → (∀ ws, o ≠ .dK ws) → F' a = some o) {ws : List (Str × V)} {xs : List (Str × Im)} (h : ∀ p ∈ xs, NoL p.2.R) (t : Fls F ws xs) : Fls F' ws xs := by
  induction t with
  | nil => exact .nil
  | cons q t ih => exact .cons (h _ List.mem_cons_self k q) (ih fun p hp => h p (List.mem_cons_of_mem _ hp))
theorem NoL.obj {D : Addr} {fs : α → List (Str × Im)} (h : ∀ x, ∀ p ∈ fs x, NoL p.2.R) : NoL (rObj D fs) := fun k ⟨a, dx, ws, h1, h2, h3⟩ => ⟨a, dx, ws, h1, k a _ h2 (fun _ z => nomatch z) (fun _ z => nomatch z), Fls.noL k (h _) h3⟩
theorem Gw.hide {F H F' H' : Hp} {p : Addr} {o : HO} (fp : F p = none) (hp : H p = some o) (w : Gw (upd F p o) H F' H') : Gw F H (fun a => if a = p then none else F' a) H' := by
  refine ⟨fun a u ha => ?_, w.h, fun a u ha => ?_, fun a h1 h2 => ?_⟩
  · have z : a ≠ p := ne_of_none ha fp
    show (if a = p then none else F' a) = some u
    rw [if_neg z]
    exact w.f a u (by rw [upd_ne z]; exact ha)
  · have ha : (if a = p then none else F' a) = some u := ha
    by_cases z : a = p
    · rw [if_pos z] at ha; cases ha
    · rw [if_neg z] at ha; exact w.e a u ha
  · show (if a = p then none else F' a) = none
    by_cases z : a = p
    · rw [if_pos z]
    · rw [if_neg z]; exact w.k a (by rw [upd_ne z]; exact h1) h2
theorem lend {σ : L2.St} {F H : Hp} {l : List Addr} (i : Nat) (hΓ : Γ[i]? = some (some (ow R as))) (g : SgL F H Γ σ l) (d : Gd b F H l) : ∃ p xs l2, F p = none ∧ H p = some (.lst xs) ∧ SgL (upd F p (.lst xs)) H (Γ.set i (some (im (rL R) as))) σ l2 ∧ Gd b (upd F p (.lst xs)) H l2 := by
  obtain ⟨v, l1, h1, ⟨p, xs, rfl, rfl, h4, h5⟩, h6, h7⟩ := g.frz d.nd hΓ
  have hp := h6 p (List.mem_singleton.mpr rfl)
  have fp := d.of p hp
  obtain ⟨l2, k1, k2, k3⟩ := h7 (upd F p (.lst xs)) (im (rL R) as) (Ex.new fp) ⟨rfl, p, xs, rfl, upd_same, h5.imp fun _ _ => R.m (Ex.new fp)⟩
  refine ⟨p, xs, l2, fp, h4, k1, d.ef.trans (Ex.new fp), d.eb, fun a u ha => ?_, fun a q1 q2 => ?_, k2, fun a ha => ?_, fun a ha => d.ob a (k3 a ha).1⟩
  · by_cases z : a = p
    · subst z; rw [upd_same] at ha; rw [h4]; exact ha
    · rw [upd_ne z] at ha; exact d.e a u ha
  · rw [upd_ne fun z => q2 (by rw [z]; exact d.ob p hp)]; exact d.k a q1 q2
  · rw [upd_ne fun z => (k3 a ha).2 (List.mem_singleton.mpr z)]; exact d.of a (k3 a ha).1
theorem EV.lend (i : Nat) (hΓ : Γ[i]? = some (some (ow R as))) (hS : NoL S) (h : EV X b (Γ.set i (some (im (rL R) as))) e (im S y)) : EV X b Γ e (im S y) := fun σ F H l g d Q q => by
  obtain ⟨p, xs, l2, fp, hp, g2, d2⟩ := Lg.lend i hΓ g d
  refine h σ _ H l2 g2 d2 Q fun v F' H' l' w ⟨e1, e2⟩ _ => ?_
  subst e1
  have Fp : F' p = some (.lst xs) := w.f p _ upd_same
  refine q v _ H' [] (Gw.hide fp hp w) ⟨rfl, hS (fun a o ha no _ => ?_) e2⟩ fun _ z => nomatch z
  show (if a = p then none else F' a) = some o
  rw [if_neg fun z => no xs (by rw [z, Fp] at ha; cases ha; rfl)]
  exact ha
theorem TV.lend {c : Bool} (i : Nat) (hΓ : Γ[i]? = some (some (ow R as))) (h : TV X b (Γ.set i (some (im (rL R) as))) e c) : TV X b Γ e c := fun σ F H l g d Q q => by
  obtain ⟨p, xs, l2, fp, hp, g2, d2⟩ := Lg.lend i hΓ g d
  exact h σ _ H l2 g2 d2 Q fun F' H' w => q _ H' (Gw.hide fp hp w)
theorem lendD {σ : L2.St} {F H : Hp} {l : List Addr} (i : Nat) (hΓ : Γ[i]? = some (some (owD S kvs))) (g : SgL F H Γ σ l) (d : Gd b F H l) : ∃ p ws l2, F p = none ∧ H p = some (.dK ws) ∧ SgL (upd F p (.dK ws)) H (Γ.set i (some (im (rD S) kvs))) σ l2 ∧ Gd b (upd F p (.dK ws)) H l2 := by
  obtain ⟨v, l1, h1, ⟨p, xs, rfl, rfl, h4, h5⟩, h6, h7⟩ := g.frz d.nd hΓ
  have hp := h6 p (List.mem_singleton.mpr rfl)
  have fp := d.of p hp
  obtain ⟨l2, k1, k2, k3⟩ := h7 (upd F p (.dK xs)) (im (rD S) kvs) (Ex.new fp) ⟨rfl, p, xs, rfl, upd_same, h5.imp fun _ _ => S.m (Ex.new fp)⟩
  refine ⟨p, xs, l2, fp, h4, k1, d.ef.trans (Ex.new fp), d.eb, fun a u ha => ?_, fun a q1 q2 => ?_, k2, fun a ha => ?_, fun a ha => d.ob a (k3 a ha).1⟩
  · by_cases z : a = p
    · subst z; rw [upd_same] at ha; rw [h4]; exact ha
    · rw [upd_ne z] at ha; exact d.e a u ha
  · rw [upd_ne fun z => q2 (by rw [z]; exact d.ob p hp)]; exact d.k a q1 q2
  · rw [upd_ne fun z => (k3 a ha).2 (List.mem_singleton.mpr z)]; exact d.of a (k3 a ha).1
theorem EV.lendD {T : Rl γ} {z : γ} (i : Nat) (hΓ : Γ[i]? = some (some (owD S kvs))) (hS : NoL T) (h : EV X b (Γ.set i (some (im (rD S) kvs))) e (im T z)) : EV X b Γ e (im T z) := fun σ F H l g d Q q => by
  obtain ⟨p, xs, l2, fp, hp, g2, d2⟩ := Lg.lendD i hΓ g d
  refine h σ _ H l2 g2 d2 Q fun v F' H' l' w ⟨e1, e2⟩ _ => ?_
  subst e1
  have Fp : F' p = some (.dK xs) := w.f p _ upd_same
  refine q v _ H' [] (Gw.hide fp hp w) ⟨rfl, hS (fun a o ha _ no => ?_) e2⟩ fun _ z => nomatch z
  show (if a = p then none else F' a) = some o
  rw [if_neg fun z => no xs (by rw [z, Fp] at ha; cases ha; rfl)]
  exact ha
theorem TV.lendD {c : Bool} (i : Nat) (hΓ : Γ[i]? = some (some (owD S kvs))) (h : TV X b (Γ.set i (some (im (rD S) kvs))) e c) : TV X b Γ e c := fun σ F H l g d Q q => by
  obtain ⟨p, xs, l2, fp, hp, g2, d2⟩ := Lg.lendD i hΓ g d
  exact h σ _ H l2 g2 d2 Q fun F' H' w => q _ H' (Gw.hide fp hp w)
end
end Lg

namespace Lg
open PySem L2 Evl PyProof.Rows
/-! ### dicts that are data, by either way of telling -/
def Dic {β : Type} (D : Rl (List (Key × β))) (S : Rl β) : Prop := ∀ {F : Hp} {v : V} {kvs : List (Key × β)}, D.r F v kvs → ∃ a ws, v = .ref a ∧ (F a = some (.dK ws) ∨ ∃ o, F a = some (.frz o (.dK ws))) ∧ KvR (S.r F) ws kvs
theorem Dic.pl {β : Type} {S : Rl β} : Dic (rD S) S := fun ⟨a, ws, h1, h2, h3⟩ => ⟨a, ws, h1, .inl h2, h3⟩
theorem Dic.lk {β : Type} {S : Rl β} : Dic (rDK S) S := fun ⟨a, o, ws, h1, h2, h3⟩ => ⟨a, ws, h1, .inr ⟨o, h2⟩, h3⟩
theorem rd_ex {F H : Hp} {a : Addr} {u : HO} (e : Ex F H) (h : F a = some u ∨ ∃ o, F a = some (.frz o u)) : Rd H a u := by
  rcases h with h | ⟨o, h⟩
  · exact .inl (e a _ h)
  · exact .inr ⟨o, e a _ h⟩
/-- the keys of a row -/
def ks {β : Type} (kvs : List (Key × β)) (ns : List Str) : Prop := kvs.map (·.1) = ns.map Sum.inr
theorem KvR.keys {β : Type} {p : V → β → Prop} : ∀ {ws kvs}, KvR p ws kvs → ws.map (·.1) = kvs.map (·.1) := fun h => by
  induction h with
  | nil => rfl
  | cons _ _ ih => rw [List.map_cons, List.map_cons, ih]
theorem ks_at {β : Type} {ws : List (Key × β)} {ns : List Str} (h : ks ws ns) {i : Nat} {k : Key} {v : β} (e : ws[i]? = some (k, v)) : ∃ n, ns[i]? = some n ∧ k = Sum.inr n := by
  have q : (ws.map (·.1))[i]? = some k := by rw [List.getElem?_map, e]; rfl
  rw [show ws.map (·.1) = ns.map Sum.inr from h, List.getElem?_map] at q
  cases z : ns[i]? with
  | none => rw [z] at q; cases q
  | some n => rw [z] at q; cases q; exact ⟨n, rfl, rfl⟩
theorem all2_keys : ∀ {ws : List (Key × V)} {ns : List Str}, ks ws ns → ∀ F : Hp, All2 (rS.r F) (ws.map fun kv => kV kv.1) ns
  | [], [], _, _ => .nil
  | [], _ :: _, h, _ => nomatch h
  | _ :: _, [], h, _ => nomatch h
  | kv :: ws, n :: ns, h, F => by
    have h : kv.1 :: ws.map (·.1) = Sum.inr n :: ns.map Sum.inr := h
    injection h with h1 h2
    exact .cons (by show kV kv.1 = V.str n; rw [h1]; rfl) (all2_keys (ws := ws) (ns := ns) h2 F)
section
variable {X : Cx} {b : Bs} {Γ : Ctx} {α β γ : Type} {R : Rl α} {S : Rl β} {T : Rl γ} {D : Rl (List (Key × β))} {x : α} {y : β} {e e1 e2 e3 tg : Expr} {pos p np : Pos} {kvs : List (Key × β)} {k : Key} {as : List α} {n : Str} {C : EndC} {rest sts : List Stmt} {z : Str} {c1 c2 : Bool}
theorem EV.inK (hD : Dic D S) (hu : X.A.units + 1 < cLine) (hk : EV X b Γ e1 (im R x)) (hx : ∀ F v, R.r F v x → v = kV k) (hd : EV X b Γ e2 (im D kvs)) (hm : behindInMarks .In e2 = false := by rfl) : EV X b Γ (.Compare e1 [.In] [e2] pos) (im rB (kget kvs k).isSome) := EV.of (pe_cmp (pc_din hu pe_w pe_w) hm) (EvS.mki fun σ F H l g d Q q =>
  hk σ F H l g d _ fun v F1 H1 l1 w1 p1 _ => hd σ F1 H1 l (g.grow w1) (d.grow g.t w1) _ fun u F2 H2 l2 w2 ⟨_, h⟩ _ => by
    obtain ⟨a, ws, h1, h2, h3⟩ := hD h
    refine ⟨a, valV ws k, h1, .inl ⟨ws, k, rd_ex w2.e h2, hx F1 v p1.2, rfl⟩, q _ F2 H2 (w1.trans w2) ?_⟩
    have t := h3.get k
    show V.bl _ = V.bl _
    cases z : kget kvs k with
    | none => rw [z] at t; rw [t]; rfl
    | some y => rw [z] at t; obtain ⟨u, t, _⟩ := t; rw [t]; rfl)
theorem EV.ninK (hD : Dic D S) (hu : X.A.units + 1 < cLine) (hk : EV X b Γ e1 (im R x)) (hx : ∀ F v, R.r F v x → v = kV k) (hd : EV X b Γ e2 (im D kvs)) (hm : behindInMarks .NotIn e2 = false := by rfl) : EV X b Γ (.Compare e1 [.NotIn] [e2] pos) (im rB (!(kget kvs k).isSome)) := EV.of (pe_cmp (pc_dnotin hu pe_w pe_w) hm) (EvS.mki fun σ F H l g d Q q =>
  hk σ F H l g d _ fun v F1 H1 l1 w1 p1 _ => hd σ F1 H1 l (g.grow w1) (d.grow g.t w1) _ fun u F2 H2 l2 w2 ⟨_, h⟩ _ => by
    obtain ⟨a, ws, h1, h2, h3⟩ := hD h
    refine ⟨a, valV ws k, h1, .inl ⟨ws, k, rd_ex w2.e h2, hx F1 v p1.2, rfl⟩, q _ F2 H2 (w1.trans w2) ?_⟩
    have t := h3.get k
    show V.bl _ = V.bl _
    cases z : kget kvs k with
    | none => rw [z] at t; rw [t]; rfl
    | some y => rw [z] at t; obtain ⟨u, t, _⟩ := t; rw [t]; rfl)
theorem EV.getK (hD : Dic D S) {v : β} (hu : X.A.units + 1 < cLine) (hd : EV X b Γ e1 (im D kvs)) (hk : EV X b Γ e2 (im R x)) (hx : ∀ F v, R.r F v x → v = kV k) (hv : kget kvs k = some v) (hs : NoSl e2 := by exact (fun _ _ => rfl)) : EV X b Γ (.Subscript e1 e2 pos) (im S v) := EV.of (pe_dget hu pe_w pe_w hs) (EvS.mki fun σ F H l g d Q q =>
  hd σ F H l g d _ fun u F1 H1 l1 w1 ⟨_, h⟩ _ => hk σ F1 H1 l (g.grow w1) (d.grow g.t w1) _ fun w F2 H2 l2 w2 p2 _ => by
    obtain ⟨a, ws, h1, h2, h3⟩ := hD h
    have t := h3.get k
    rw [hv] at t
    obtain ⟨u2, t1, t2⟩ := t
    refine ⟨a, u2, h1, .inl ⟨ws, k, ?_, hx F2 w p2.2, t1.symm⟩, q _ F2 H2 (w1.trans w2) (S.m w2.f t2)⟩
    exact rd_ex (w1.e.trans w2.h) h2)
/-- for n in d -/
theorem IV.keys {ns : List Str} (h : EV X b Γ e (im (rDK S) kvs)) (hk : ks kvs ns) : IV X b Γ tg e ns.length (IL rS ns) := ⟨_, pi_keys pe_w, fun σ F H l g d Q q => h σ F H l g d _ fun v F1 H1 l1 w ⟨_, a, o, ws, h1, h2, h3⟩ _ => by
  have hkw : ks ws ns := by rw [ks, h3.keys]; exact hk
  have hl : ws.length = ns.length := by
    have := congrArg List.length hkw
    rwa [List.length_map, List.length_map] at this
  refine ⟨a, o, h1, .inl ⟨ws, w.e a _ h2, q _ F1 H1 w ?_⟩⟩
  rw [← hl]
  refine ⟨_, _, walk_keys, fun F' H' e1 e2 => e2 a _ (e1 a _ h2), fun i F' H' v H'' hi e1 e2 y => ?_⟩
  obtain ⟨rfl, k, u, hy, rfl⟩ := y
  obtain ⟨n, k1, rfl⟩ := ks_at hkw hy
  exact ⟨F', mk rS n, Gw.refl e2, ⟨n, k1, rfl⟩, rfl⟩⟩
/-- list(d) -/
theorem EV.listK {ns : List Str} (hD : Dic D S) (ha : AV X b Γ [e] [mk D kvs]) (hk : ks kvs ns) (hm : X.mg "list" = none) (hg : Gl X "list" := by rfl) (hc : X.calm = true := by rfl) (he : starEach [e] X.env = (false, eval e X.env) :: starEach [] X.env := by rfl) : EV X b Γ (.Call (.Name "list" p) [e] [] pos) (ow rS ns) := by
  obtain ⟨ta, p1, p2⟩ := ha
  refine EV.of (pe_callTy (call_listD hc) hg hm (by decide +kernel) p1 (he := he) (hpl := rfl)) fun σ F H l g d Q q => p2 σ F H l g d _ fun vs F1 H1 w hv => ?_
  obtain ⟨v, rfl, hv2⟩ := ims1 hv
  have hv2 : D.r F1 v kvs := hv2
  obtain ⟨a, ws, h1, h2, h3⟩ := hD hv2
  refine ⟨a, ws, by rw [h1], rd_ex w.e h2, fun r hr => ?_⟩
  have fr : F1 r = none := ex_none w.e hr
  refine q _ F1 _ [r] (w.trans (Gw.own w.e hr)) ⟨r, _, rfl, rfl, upd_same, all2_keys (by rw [ks, h3.keys]; exact hk) F1⟩ fun c hc => ?_
  rw [List.mem_singleton.mp hc]
  exact ⟨ex_none w.h hr, fr⟩
/-- truth of a dict, of a list -/
theorem tru_rd : TruR X (fun x H Q => ∃ a kvs, x = .ref a ∧ Rd H a (.dK kvs) ∧ Q (!kvs.isEmpty) H) := by
  intro pins s σ H x v Q I rx h
  obtain ⟨a, kvs, rfl, e, q⟩ := h
  cases rx
  exact d_truth I e fun s' I' => ⟨H, I', q⟩
theorem TV.truK (hD : Dic D S) (h : EV X b Γ e (im D kvs)) (he : ∀ whole, isTrue e X.env whole = (do let v ← whole; standAt e.pos; holding [v] (truthy v)) := by intro _; rfl) : TV X b Γ e (!kvs.isEmpty) := TV.of (pt_truthR pe_w tru_rd he) fun σ F H l g d Q q =>
  h σ F H l g d _ fun v F1 H1 l1 w ⟨_, hv⟩ _ => by
    obtain ⟨a, ws, h1, h2, h3⟩ := hD hv
    refine ⟨a, ws, h1, rd_ex w.e h2, ?_⟩
    rw [show ws.isEmpty = kvs.isEmpty by cases h3 <;> rfl]
    exact q F1 H1 w
/-- lists that are data, by either way of telling -/
def Lis (L : Rl (List α)) (R : Rl α) : Prop := ∀ {F : Hp} {v : V} {as : List α}, L.r F v as → ∃ a xs, v = .ref a ∧ (F a = some (.lst xs) ∨ ∃ o, F a = some (.frz o (.lst xs))) ∧ All2 (R.r F) xs as
theorem Lis.pl : Lis (rL R) R := fun ⟨a, xs, h1, h2, h3⟩ => ⟨a, xs, h1, .inl h2, h3⟩
theorem Lis.lk : Lis (rLK R) R := fun ⟨a, o, xs, h1, h2, h3⟩ => ⟨a, xs, h1, .inr ⟨o, h2⟩, h3⟩
theorem sq_ex {K : PySem.W.Frag} {F H : Hp} {a : Addr} {xs : List V} (e : Ex F H) (h : F a = some (.lst xs) ∨ ∃ o, F a = some (.frz o (.lst xs))) : SqL K H a xs := .inl (rd_ex e h)
theorem TV.truL {L : Rl (List α)} (hL : Lis L R) (h : EV X b Γ e (im L as)) (he : ∀ whole, isTrue e X.env whole = (do let v ← whole; standAt e.pos; holding [v] (truthy v)) := by intro _; rfl) : TV X b Γ e (!as.isEmpty) := TV.of (pt_truth pe_w he) fun σ F H l g d Q q =>
  h σ F H l g d _ fun v F1 H1 l1 w ⟨_, hv⟩ _ => by
    obtain ⟨a, xs, rfl, h2, h3⟩ := hL hv
    refine ⟨!as.isEmpty, .inl ⟨xs, sq_ex w.e h2, ?_⟩, q F1 H1 w⟩
    cases h3 <;> rfl
theorem EV.notL {L : Rl (List α)} (hL : Lis L R) (h : EV X b Γ e (im L as)) : EV X b Γ (.UnaryOp .Not e pos) (im rB as.isEmpty) := EV.of (pe_notT pe_w) (EvS.mki fun σ F H l g d Q q =>
  h σ F H l g d _ fun v F1 H1 l1 w ⟨_, hv⟩ _ => by
    obtain ⟨a, xs, rfl, h2, h3⟩ := hL hv
    refine ⟨!as.isEmpty, .inl ⟨xs, sq_ex w.e h2, by cases h3 <;> rfl⟩, q _ F1 H1 w ?_⟩
    rw [Bool.not_not]; rfl)
theorem EV.listLK {L : Rl (List α)} (hL : Lis L R) (ha : AV X b Γ [e] [mk L as]) (hm : X.mg "list" = none) (hg : Gl X "list" := by rfl) (he : starEach [e] X.env = (false, eval e X.env) :: starEach [] X.env := by rfl) : EV X b Γ (.Call (.Name "list" p) [e] [] pos) (ow R as) := by
  obtain ⟨ta, p1, p2⟩ := ha
  refine EV.of (pe_callTy call_list_of hg hm (by decide +kernel) p1 (he := he) (hpl := rfl)) fun σ F H l g d Q q => p2 σ F H l g d _ fun vs F1 H1 w hv => ?_
  obtain ⟨v, rfl, hv2⟩ := ims1 hv
  have hv2 : L.r F1 v as := hv2
  obtain ⟨a, xs, rfl, h2, h3⟩ := hL hv2
  exact ⟨a, xs, rfl, .inl (sq_ex w.e h2), fun c hc => q _ F1 _ [c] (w.trans (Gw.own w.e hc)) ⟨c, xs, rfl, rfl, upd_same, h3⟩ fun c' hc' => by rw [List.mem_singleton.mp hc']; exact ⟨ex_none w.h hc, ex_none w.e hc⟩⟩
theorem IV.lst {L : Rl (List α)} (hL : Lis L R) (h : EV X b Γ e (im L as)) : IV X b Γ tg e as.length (IL R as) := ⟨_, pi_list pe_w, fun σ F H l g d Q q => h σ F H l g d _ fun v F1 H1 l1 w ⟨_, hv⟩ _ => by
  obtain ⟨a, xs, h1, h2, h3⟩ := hL hv
  refine ⟨a, h1, ⟨xs, sq_ex w.e h2⟩, q _ F1 H1 w ?_⟩
  rw [← h3.len]
  refine ⟨_, _, walk_list, fun F' H' e1 e2 => sq_ex (e1.trans e2) h2, fun i F' H' v H'' hi e1 e2 y => ?_⟩
  obtain ⟨rfl, hy⟩ := y
  obtain ⟨a0, k1, k2⟩ := h3.getV hy
  exact ⟨F', mk R a0, Gw.refl e2, ⟨a0, k1, rfl⟩, R.m e1 k2⟩⟩
/-- d[k] = v, the dict one's own -/
theorem HT.putK {np sp : Pos} (i : Nat) (hΓ : Γ[i]? = some (some (owD S kvs))) (hu : X.A.units + 1 < cLine) (he : EV X b Γ e (im S y)) (hk : EV X b Γ e1 (im R x)) (hx : ∀ F v, R.r F v x → v = kV k) (hz : kvs.length < 100000) (q : HT X b C (Γ.set i (some (owD S (kput kvs k y)))) rest) (hN : X.N[i]? = some n := by rfl) (hv : Vis X.env.scope n := by first | exact Or.inl rfl | exact Or.inr (Or.inl rfl) | exact Or.inr (Or.inr rfl))
    (hd : (n == ("__debug__" : Str)) = false := by decide) (hcd : (n == ("__classdict__" : Str)) = false := by decide) (hs : swapsWith e (some (.Subscript (.Name n np) e1 sp)) pos.line X.env = pure false := by rfl) :
    HT X b C Γ (.Assign [.Subscript (.Name n np) e1 sp] e pos :: rest) :=
  HT.step (ps_dput hu (pe_var hN hv hd hcd) pe_w pe_w hs) fun σ F H ⟨l, g, d⟩ => he σ F H l g d _ fun u F1 H1 l1 w1 p1 _ => by
    have g1 := g.grow w1
    have d1 := d.grow g.t w1
    obtain ⟨v0, l0, h0, ⟨p0, ws0, e0, _, _, _⟩, _⟩ := g1.get hΓ
    refine ⟨_, h0, hk σ F1 H1 l g1 d1 _ fun t F2 H2 l2 w2 p2 _ => ?_⟩
    have g2 := g1.grow w2
    have d2 := d1.grow g1.t w2
    obtain ⟨v, l3, h1, ⟨p, ws, rfl, rfl, h4, h5⟩, h6, h7⟩ := g2.mod d2.nd hΓ
    have hp := h6 p (List.mem_singleton.mpr rfl)
    rw [h0] at h1
    cases h1
    refine ⟨p, _, rfl, by rw [hx F2 t p2.2]; exact DPut.k h4 (by rw [h5.len]; exact Nat.lt_of_lt_of_le hz (by decide)), ?_⟩
    exact q σ F2 _ ⟨l, h7 _ _ (fun a ha => upd_ne fun z => ha (List.mem_singleton.mpr z)) ⟨p, _, rfl, rfl, upd_same, h5.put k (S.m w2.f p1.2)⟩, d2.ef, Ex.mut d2.eb (d2.ob p hp), Ex.mut d2.e (d2.of p hp), d2.k, d2.nd, d2.of, d2.ob⟩
end
end Lg

namespace Lg
open PySem L2 Evl PyProof.Rows
/-! ### texts -/
def sg (c : Nat) : Str := ⟨#[c]⟩
/-- the signs of a text -/
def cs (z : Str) : List Nat := z.cps.toList
theorem cs_len (z : Str) : (cs z).length = z.length := Array.length_toList
theorem cs_ext {x y : Str} (h : cs x = cs y) : x = y := by
  obtain ⟨⟨a⟩⟩ := x
  obtain ⟨⟨b⟩⟩ := y
  have h : a = b := h
  rw [h]
/-- scalars, flat -/
structure Flat {α : Type} (R : Rl α) (f : α → V) : Prop where
  u : ∀ {F v a}, R.r F v a → v = f a
  w : ∀ {F a}, R.r F (f a) a
  fl : ∀ a, flatV (f a) = true
  eq : ∀ a b, eqV (f a) (f b) = true ↔ a = b
theorem Flat.int : Flat rI V.int := ⟨fun h => h, rfl, fun _ => rfl, fun a b => beq_iff_eq⟩
theorem Flat.str : Flat rS V.str := ⟨fun h => h, rfl, fun _ => rfl, fun a b => beq_iff_eq⟩
def oV {α : Type} (f : α → V) : Option α → V
  | none => .non
  | some a => f a
theorem Flat.opt : Flat (rO rS) (oV V.str) := ⟨fun {F v a} h => by cases a <;> exact h, fun {F a} => by cases a <;> exact rfl, fun a => by cases a <;> rfl, fun a b => by
  cases a with
  | none => cases b with
    | none => exact ⟨fun _ => rfl, fun _ => rfl⟩
    | some b => exact ⟨fun h => absurd (show false = true from h) (by decide), fun h => absurd h (fun z => nomatch z)⟩
  | some a => cases b with
    | none => exact ⟨fun h => absurd (show false = true from h) (by decide), fun h => absurd h (fun z => nomatch z)⟩
    | some b => exact ⟨fun h => congrArg some ((Flat.str.eq a b).mp h), fun h => (Flat.str.eq a b).mpr (Option.some.inj h)⟩⟩
section
variable {α : Type} {R : Rl α} {f : α → V} [DecidableEq α]
theorem Flat.all {F : Hp} (h : Flat R f) {xs : List V} {as : List α} (t : All2 (R.r F) xs as) : xs = as.map f := by
  induction t with
  | nil => rfl
  | cons a _ ih => rw [h.u a, ih]; rfl
theorem Flat.flat (h : Flat R f) (as : List α) : (as.map f).all flatV = true := by
  induction as with
  | nil => rfl
  | cons a as ih =>
    show (flatV (f a) && (as.map f).all flatV) = true
    rw [h.fl a, ih]; rfl
theorem Flat.inV (h : Flat R f) (k : α) (as : List α) : L2.inV (f k) (as.map f) = decide (k ∈ as) := by
  induction as with
  | nil => simp [L2.inV]
  | cons a as ih =>
    show (eqV (f a) (f k) || L2.inV (f k) (as.map f)) = _
    rw [ih]
    by_cases z : k = a
    · subst z; rw [(h.eq k k).mpr rfl]; simp
    · have : eqV (f a) (f k) = false := Bool.eq_false_iff.mpr fun q => z ((h.eq a k).mp q).symm
      rw [this]; simp [z]
end
section
variable {X : Cx} {b : Bs} {Γ : Ctx} {α β γ : Type} {R : Rl α} {S : Rl β} {T : Rl γ} {L : Rl (List α)} {x : α} {y : β} {e e1 e2 e3 tg : Expr} {pos p np : Pos} {as : List α} {n : Str} {C : EndC} {rest sts bd : List Stmt} {z z1 z2 z3 : Str} {c1 c2 : Bool} {f : α → V} {i j k : Int}
theorem EV.inF [DecidableEq α] (hF : Flat R f) (hL : Lis L R) (hk : EV X b Γ e1 (im R x)) (hl : EV X b Γ e2 (im L as)) (hm : behindInMarks .In e2 = false := by rfl) : EV X b Γ (.Compare e1 [.In] [e2] pos) (im rB (decide (x ∈ as))) := EV.of (pe_cmpR op_in_seq pe_w pe_w hm) (EvS.op2i hk hl fun F H v w ef h1 h2 Q q => by
  obtain ⟨a, xs, k1, k2, k3⟩ := hL h2
  exact ⟨a, xs, k1, .inl (sq_ex ef k2), by rw [hF.u h1]; exact hF.fl _, by rw [hF.all k3]; exact hF.flat _, q _ (by rw [hF.u h1, hF.all k3, hF.inV]; rfl)⟩)
theorem TV.inF [DecidableEq α] (hF : Flat R f) (hL : Lis L R) (hk : EV X b Γ e1 (im R x)) (hl : EV X b Γ e2 (im L as)) (hm : behindInMarks .In e2 = false := by rfl) : TV X b Γ (.Compare e1 [.In] [e2] pos) (decide (x ∈ as)) := TV.of (pt_cmpR op_in_seq pe_w pe_w hm) (TvS.test (EvS.op2i hk hl fun F H v w ef h1 h2 Q q => by
  obtain ⟨a, xs, k1, k2, k3⟩ := hL h2
  exact ⟨a, xs, k1, .inl (sq_ex ef k2), by rw [hF.u h1]; exact hF.fl _, by rw [hF.all k3]; exact hF.flat _, q _ (by rw [hF.u h1, hF.all k3, hF.inV]; rfl)⟩))
theorem EV.ninF [DecidableEq α] (hF : Flat R f) (hL : Lis L R) (hk : EV X b Γ e1 (im R x)) (hl : EV X b Γ e2 (im L as)) (hm : behindInMarks .NotIn e2 = false := by rfl) : EV X b Γ (.Compare e1 [.NotIn] [e2] pos) (im rB (!decide (x ∈ as))) := EV.of (pe_cmpR op_notIn_seq pe_w pe_w hm) (EvS.op2i hk hl fun F H v w ef h1 h2 Q q => by
  obtain ⟨a, xs, k1, k2, k3⟩ := hL h2
  exact ⟨a, xs, k1, .inl (sq_ex ef k2), by rw [hF.u h1]; exact hF.fl _, by rw [hF.all k3]; exact hF.flat _, q _ (by rw [hF.u h1, hF.all k3, hF.inV]; rfl)⟩)
theorem TV.ninF [DecidableEq α] (hF : Flat R f) (hL : Lis L R) (hk : EV X b Γ e1 (im R x)) (hl : EV X b Γ e2 (im L as)) (hm : behindInMarks .NotIn e2 = false := by rfl) : TV X b Γ (.Compare e1 [.NotIn] [e2] pos) (!decide (x ∈ as)) := TV.of (pt_cmpR op_notIn_seq pe_w pe_w hm) (TvS.test (EvS.op2i hk hl fun F H v w ef h1 h2 Q q => by
  obtain ⟨a, xs, k1, k2, k3⟩ := hL h2
  exact ⟨a, xs, k1, .inl (sq_ex ef k2), by rw [hF.u h1]; exact hF.fl _, by rw [hF.all k3]; exact hF.flat _, q _ (by rw [hF.u h1, hF.all k3, hF.inV]; rfl)⟩))
/-- a constant of the module -/
theorem EV.gl {u : Value} {v : V} (hm : X.mg n = some u) (r : RelV v u) (hR : ∀ F, R.r F v x) (hg : Gl X n := by rfl) (hd : (n == ("__debug__" : Str)) = false := by decide) : EV X b Γ (.Name n np) (im R x) :=
  EV.of (pe_glob hg hm r hd) (EvS.mki fun σ F H l g d Q q => q _ F H (Gw.refl d.e) (hR F))
/-- text[i] -/
theorem EV.chr {c : Nat} (h : EV X b Γ e1 (im rS z)) (hi : EV X b Γ e2 (im rI i)) (h0 : 0 ≤ i) (h63 : i < 2 ^ 63) (hc : (cs z)[i.toNat]? = some c) (hs : PlainIxT e2 := by exact (fun _ _ => rfl)) : EV X b Γ (.Subscript e1 e2 pos) (im rS (sg c)) := EV.of (pe_item_str pe_w pe_w hs) (EvS.op2i h hi fun F H v w _ h1 h2 Q q => by
  have hl : i.toNat < (cs z).length := (List.getElem?_eq_some_iff.mp hc).1
  rw [cs_len] at hl
  exact ⟨z, i, c, h1, h2, h0, h63, by omega, by rw [← hc, cs, Array.getElem?_toList], q _ rfl⟩)
/-- a sign in a text -/
theorem EV.inSg {c : Nat} (h : EV X b Γ e1 (im rS (sg c))) (hz : EV X b Γ e2 (im rS z)) (hm : behindInMarks .In e2 = false := by rfl) : EV X b Γ (.Compare e1 [.In] [e2] pos) (im rB (decide (c ∈ cs z))) := EV.of (pe_cmpR op_in_sign pe_w pe_w hm) (EvS.op2i h hz fun F H v w _ h1 h2 Q q => ⟨c, z, h1, h2, q _ rfl⟩)
theorem EV.eqS (ha : EV X b Γ e1 (im rS z1)) (hb : EV X b Γ e2 (im rS z2)) : EV X b Γ (.Compare e1 [.Eq] [e2] pos) (im rB (decide (z1 = z2))) := (EV.eqv ha hb (v := .str z1) (w := .str z2) (fun _ _ h => h) (fun _ _ h => h) rfl).cast (by simp)
theorem TV.eqS (ha : EV X b Γ e1 (im rS z1)) (hb : EV X b Γ e2 (im rS z2)) : TV X b Γ (.Compare e1 [.Eq] [e2] pos) (decide (z1 = z2)) := (TV.eqv ha hb (v := .str z1) (w := .str z2) (fun _ _ h => h) (fun _ _ h => h) rfl).cast (by simp)
theorem TV.neS (ha : EV X b Γ e1 (im rS z1)) (hb : EV X b Γ e2 (im rS z2)) : TV X b Γ (.Compare e1 [.NotEq] [e2] pos) (!decide (z1 = z2)) := (TV.nev ha hb (v := .str z1) (w := .str z2) (fun _ _ h => h) (fun _ _ h => h) rfl).cast (by simp)
/-- order of texts -/
def leS (x y : Str) : Bool := !decide (cs y < cs x)
theorem leS_sg (a c : Nat) : leS (sg a) (sg c) = decide (a ≤ c) := by
  unfold leS
  show (!decide (([c] : List Nat) < [a])) = _
  by_cases h : a ≤ c
  · rw [decide_eq_true h, decide_eq_false]
    · rfl
    · intro q
      cases q with
      | rel q => omega
      | cons q => cases q
  · rw [decide_eq_false h, decide_eq_true]
    · rfl
    · exact .rel (by omega)
def rLeS : R2 := fun x y H Q => ∃ i j, x = .str i ∧ y = .str j ∧ Q (.bl (!decide (j.cps.toList < i.cps.toList))) H
theorem TV.leLeS (ha : EV X b Γ e1 (im rS z1)) (hb : EV X b Γ e2 (im rS z2)) (hc : EV X b Γ e3 (im rS z3)) (hm : lastMarks [.LtE, .LtE] [e2, e3] = false := by rfl) : TV X b Γ (.Compare e1 [.LtE, .LtE] [e2, e3] pos) (leS z1 z2 && leS z2 z3) :=
  TV.of (pt_chain op_le_str op_le_str pe_w pe_w pe_w (hm := hm)) fun σ F H l g d Q q => EvS.chain (r := rLeS) (r' := rLeS) ha hb (fun _ => hc) (fun F H v w h1 h2 Q q => ⟨z1, z2, h1, h2, q⟩) (fun F H v w h1 h2 Q q => ⟨z2, z3, h1, h2, q⟩) σ F H l g d _ fun F' H' w => ⟨_, rfl, q F' H' w⟩
/-- for c in text -/
theorem IV.chars (h : EV X b Γ e (im rS z)) : IV X b Γ tg e ((cs z).map sg).length (IL rS ((cs z).map sg)) := ⟨_, pi_str pe_w, fun σ F H l g d Q q => h σ F H l g d _ fun v F1 H1 l1 w ⟨_, hv⟩ _ => by
  refine ⟨z, hv, q _ F1 H1 w ?_⟩
  have hl : ((cs z).map sg).length = z.cps.size := by rw [List.length_map]; exact Array.length_toList
  rw [hl]
  refine ⟨_, _, walk_str, fun F' H' e1 e2 => trivial, fun i F' H' v H'' hi e1 e2 y => ?_⟩
  obtain ⟨rfl, c, hy, rfl⟩ := y
  exact ⟨F', mk rS (sg c), Gw.refl e2, ⟨sg c, by rw [List.getElem?_map, cs, Array.getElem?_toList, hy]; rfl, rfl⟩, rfl⟩⟩
theorem EV.all {bs : List Bool} (ha : AV X b Γ [e] [mk (rL rB) bs]) (hm : X.mg "all" = none) (hg : Gl X "all" := by rfl) (hc : X.calm = true := by rfl) (he : starEach [e] X.env = (false, eval e X.env) :: starEach [] X.env := by rfl) : EV X b Γ (.Call (.Name "all" p) [e] [] pos) (im rB (bs.all id)) :=
  EV.c1 ha (fun h => pe_callB (cr_all hc) hg hm (by decide +kernel) h (he := he) (hpl := rfl)) fun F H v ef ⟨a, xs, h1, h2, h3⟩ Q q => ⟨a, bs, by rw [h1], by rw [← all2_bls h3]; exact SqL.of (ef a _ h2), q _ rfl⟩
/-- while, by a count that falls -/
theorem HT.while (Inv : Nat → Ctx → Prop) (m : Nat) (h0 : Inv m Γ)
    (hs : ∀ b' k Γ', b'.B = b.B → Inv k Γ' → ∃ c, TV X b' Γ' e c ∧ (c = true → HT X b' { C with nx := fun Γ => ∃ k', k' < k ∧ Inv k' Γ, ct := fun Γ => ∃ k', k' < k ∧ Inv k' Γ, bk := fun Γ => HT X b C Γ rest } Γ' bd) ∧ (c = false → HT X b C Γ' rest))
    (hp : PassesOwn (model X.prog X.w) X.A X.env X.xe) : HT X b C Γ (.While e bd [] pos :: rest) := by
  refine HT.step (ps_while hp pt_w pss_w) fun σ F H ⟨l, g, d⟩ => ?_
  refine ⟨fun k σ' H' => At ⟨F, b.B⟩ (Inv k) σ' H', ⟨m, Γ, F, ⟨l, g, d.self⟩, h0⟩, fun k σ1 H1 ⟨Γ1, F1, ⟨l1, g1, d1⟩, iv⟩ => ?_⟩
  have u1 := d.up
  have u2 : Up ⟨F, b.B⟩ ⟨F1, b.B⟩ := d1.up
  obtain ⟨c, ht, hy, hn⟩ := hs ⟨F1, b.B⟩ k Γ1 rfl iv
  refine ht σ1 F1 H1 l1 g1 d1.self _ fun F2 H2 w => ?_
  have g2 := g1.grow w
  have d2 := d1.self.grow g1.t w
  cases c with
  | false => exact hn rfl σ1 F2 H2 ⟨l1, g2, u1.gd (u2.gd d2)⟩
  | true =>
    refine ⟨fun σ' H' => At ⟨F, b.B⟩ (fun Γ => ∃ k', k' < k ∧ Inv k' Γ) σ' H', fun σ' H' ⟨Γ', F', g', k', hk, iv'⟩ => ⟨k', hk, Γ', F', g', iv'⟩, ?_⟩
    refine wS.mono (hy rfl σ1 F2 H2 ⟨l1, g2, d2⟩) (fun _ _ h => u2.at h) (fun _ _ h => u1.rt (u2.rt h)) (fun σ3 H3 h => ?_) (fun _ _ h => u2.at h)
    obtain ⟨Γ3, F3, g3, h3⟩ := h
    exact h3 σ3 F3 H3 (u1.sg (u2.sg g3))
end
/-! ### == of data whose texts are texts -/
structure Dw {α : Type} (K : PySem.W.Frag) (R : Rl α) (D : α → PyData) (n : Nat) : Prop where
  rep : ∀ {H v x}, R.r H v x → Dp K H v (D x)
  dep : ∀ x, (D x).depth ≤ n
  eqv : ∀ x y, PyData.eqv (D x) (D y) = true ↔ x = y
def oD : Option Str → PyData
  | none => .none
  | some s => .str s
section
variable {K : PySem.W.Frag} {α β : Type} {R : Rl α} {S : Rl β} {D : α → PyData} {n : Nat}
theorem Dw.str : Dw K rS PyData.str 0 := ⟨fun h => by rw [show _ = V.str _ from h]; exact .str _, fun _ => Nat.le_of_eq rfl, fun x y => by simp [PyData.eqv]⟩
theorem Dw.optS : Dw K (rO rS) oD 0 := ⟨fun {H v x} h => by
  cases x with
  | none => rw [show v = V.non from h]; exact .non
  | some s => rw [show v = V.str s from h]; exact .str _, fun x => by cases x <;> exact Nat.le_of_eq rfl, fun x y => by cases x <;> cases y <;> simp [PyData.eqv, oD]⟩
theorem Dw.dpAll (d : Dw K R D n) {H : Hp} {vs : List V} {as : List α} (t : All2 (R.r H) vs as) : DpAll K H vs (as.map D) := by
  induction t with
  | nil => exact .nil
  | cons h _ ih => exact .cons (d.rep h) ih
theorem Dw.depAll (d : Dw K R D n) (as : List α) : PyData.depthAll (as.map D) ≤ n := by
  induction as with
  | nil => exact Nat.zero_le _
  | cons a as ih =>
    show max (D a).depth (PyData.depthAll (as.map D)) ≤ n
    exact Nat.max_le.mpr ⟨d.dep a, ih⟩
theorem Dw.eqvAll (d : Dw K R D n) (as : List α) : ∀ bs : List α, PyData.eqvAll (as.map D) (bs.map D) = true ↔ as = bs := by
  induction as with
  | nil =>
    intro bs
    cases bs with
    | nil => exact ⟨fun _ => rfl, fun _ => rfl⟩
    | cons _ _ => exact ⟨fun h => absurd (show false = true from h) (by decide), fun h => nomatch h⟩
  | cons a as ih =>
    intro bs
    cases bs with
    | nil => exact ⟨fun h => absurd (show false = true from h) (by decide), fun h => nomatch h⟩
    | cons b bs =>
      show (PyData.eqv (D a) (D b) && PyData.eqvAll (as.map D) (bs.map D)) = true ↔ _
      rw [Bool.and_eq_true, d.eqv, ih bs]
      exact ⟨fun ⟨h1, h2⟩ => by rw [h1, h2], fun h => by cases h; exact ⟨rfl, rfl⟩⟩
theorem Dw.lst {L : Rl (List α)} (hL : Lis L R) (d : Dw K R D n) : Dw K L (fun as => .list (as.map D)) (n + 1) := ⟨fun h => by
  obtain ⟨p, xs, rfl, h2, h3⟩ := hL h
  exact .lst (sq_ex (Ex.refl _) h2) (d.dpAll h3), fun as => by
    have := d.depAll as
    show PyData.depthAll (as.map D) + 1 ≤ n + 1
    omega, fun as bs => by
    rw [← d.eqvAll as bs]
    exact Iff.rfl⟩
theorem layAll (D : α → PyData) (as : List α) (h : ∀ a ∈ as, (D a).canLay0 = true) : (PyData.list (as.map D)).canLay0 = true := by
  show PyData.canLayAll0 (as.map D) = true
  induction as with
  | nil => rfl
  | cons a as ih =>
    show ((D a).canLay0 && PyData.canLayAll0 (as.map D)) = true
    rw [h a List.mem_cons_self, ih fun a ha => h a (List.mem_cons_of_mem _ ha)]; rfl
end
section
variable {X : Cx} {b : Bs} {Γ : Ctx} {α β γ : Type} {R : Rl α} {S : Rl β} {x y : α} {D : α → PyData} {n : Nat} {e1 e2 : Expr} {pos : Pos}
theorem Dw.shaped (d : Dw X.K R D n) (hn : n ≤ 64) (hx : (D x).canLay0 = true) : SeqAt.shaped (D x) = true := by
  unfold SeqAt.shaped
  rw [hx, decide_eq_true (Nat.le_trans (d.dep x) hn)]; rfl
theorem TV.eqW [DecidableEq α] (d : Dw X.K R D n) (hn : n ≤ 64) (hu : X.A.units + 64 < cLine) (hx : (D x).canLay0 = true) (hy : (D y).canLay0 = true) (ha : EV X b Γ e1 (im R x)) (hb : EV X b Γ e2 (im R y)) : TV X b Γ (.Compare e1 [.Eq] [e2] pos) (decide (x = y)) := TV.of (pt_cmpR (op_eqD hu) pe_w pe_w (nomark _)) (TvS.test (EvS.op2i ha hb fun F H v w ef h1 h2 Q q =>
  ⟨_, _, d.rep (R.m ef h1), d.rep (R.m ef h2), d.shaped hn hx, d.shaped hn hy, q _ (by
    show V.bl _ = V.bl _
    congr 1
    rw [Bool.eq_iff_iff, d.eqv]; simp)⟩))
theorem EV.eqW [DecidableEq α] (d : Dw X.K R D n) (hn : n ≤ 64) (hu : X.A.units + 64 < cLine) (hx : (D x).canLay0 = true) (hy : (D y).canLay0 = true) (ha : EV X b Γ e1 (im R x)) (hb : EV X b Γ e2 (im R y)) : EV X b Γ (.Compare e1 [.Eq] [e2] pos) (im rB (decide (x = y))) := EV.of (pe_cmpR (op_eqD hu) pe_w pe_w (nomark _)) (EvS.op2i ha hb fun F H v w ef h1 h2 Q q =>
  ⟨_, _, d.rep (R.m ef h1), d.rep (R.m ef h2), d.shaped hn hx, d.shaped hn hy, q _ (by
    show V.bl _ = V.bl _
    congr 1
    rw [Bool.eq_iff_iff, d.eqv]; simp)⟩)
theorem TV.neW [DecidableEq α] (d : Dw X.K R D n) (hn : n ≤ 64) (hu : X.A.units + 64 < cLine) (hx : (D x).canLay0 = true) (hy : (D y).canLay0 = true) (ha : EV X b Γ e1 (im R x)) (hb : EV X b Γ e2 (im R y)) : TV X b Γ (.Compare e1 [.NotEq] [e2] pos) (!decide (x = y)) := TV.of (pt_cmpR (op_neD hu) pe_w pe_w (nomark _)) (TvS.test (EvS.op2i ha hb fun F H v w ef h1 h2 Q q =>
  ⟨_, _, d.rep (R.m ef h1), d.rep (R.m ef h2), d.shaped hn hx, d.shaped hn hy, q _ (by
    show V.bl _ = V.bl _
    congr 2
    rw [Bool.eq_iff_iff, d.eqv]; simp)⟩))
end
end Lg

namespace Lg
open PySem L2 Evl PyProof.Rows
section
variable {X : Cx} {b : Bs} {Γ : Ctx} {α β γ : Type} {R : Rl α} {S : Rl β} {D : Rl (List (Key × β))} {x : α} {y : β} {e e1 e2 : Expr} {pos : Pos} {kvs : List (Key × β)} {o : Option Str}
theorem EV.dict0 : EV X b Γ (.Dict [] [] pos) (owD S []) := EV.of pe_dnewK fun σ F H l g d Q q p hp =>
  q _ F _ [p] (Gw.own d.e hp) ⟨p, [], rfl, rfl, upd_same, .nil⟩ fun c hc => by rw [List.mem_singleton.mp hc]; exact ⟨hp, ex_none d.e hp⟩
/-- {k: v} -/
theorem EV.dict1 {k : Key} {kx vx : Expr} (hk : EV X b Γ kx (im R x)) (hx : ∀ F v, R.r F v x → v = kV k) (hv : EV X b Γ vx (im S y))
    (hp : ∀ {t1 t2 : TE}, PE X kx t1 → PE X vx t2 → PPs X pos [some kx] [vx] [(t1, t2)]) : EV X b Γ (.Dict [some kx] [vx] pos) (owD S [(k, y)]) := by
  refine EV.of (pe_disp (hp pe_w pe_w) rfl rfl (by simp) (by show 1 ≤ 15; decide)) fun σ F H l g d Q q p hp => ?_
  have w0 := Gw.own (o := .dK []) d.e hp
  have fp := ex_none d.e hp
  refine hk σ F _ l (g.grow w0) (d.grow g.t w0) _ fun v1 F1 H1 l1 w1 p1 _ => hv σ F1 H1 l ((g.grow w0).grow w1) ((d.grow g.t w0).grow (g.grow w0).t w1) _ fun v2 F2 H2 l2 w2 p2 _ => ?_
  have w12 := w1.trans w2
  have e2 : H2 p = some (.dK []) := w12.h p _ upd_same
  have f2 : F2 p = none := w12.k p fp (by rw [upd_same]; exact fun z => nomatch z)
  refine ⟨e2, [(k, v2)], by rw [List.map_singleton, hx F1 v1 p1.2], by show 1 ≤ 15; decide, ?_⟩
  refine q _ F2 _ [p] ⟨w12.f, fun a u ha => ?_, fun a u ha => ?_, fun a h1 h2 => ?_⟩ ⟨p, [(k, v2)], rfl, rfl, upd_same, .cons p2.2 .nil⟩ fun c hc => by rw [List.mem_singleton.mp hc]; exact ⟨hp, f2⟩
  · have z := ne_of_none ha hp
    rw [upd_ne z]
    exact w12.h a u (by rw [upd_ne z]; exact ha)
  · rw [upd_ne (ne_of_none ha f2)]
    exact w12.e a u ha
  · have z : a ≠ p := fun z => h2 (by rw [z]; exact hp)
    exact w12.k a h1 (by rw [upd_ne z]; exact h2)
/-- k in d, k a text or None -/
def ink (kvs : List (Key × β)) : Option Str → Bool
  | none => false
  | some s => (kget kvs (Sum.inr s)).isSome
theorem EV.inN (hD : Dic D S) (hu : X.A.units + 1 < cLine) (hk : EV X b Γ e1 (im (rO rS) o)) (hd : EV X b Γ e2 (im D kvs)) (hm : behindInMarks .In e2 = false := by rfl) : EV X b Γ (.Compare e1 [.In] [e2] pos) (im rB (ink kvs o)) := EV.of (pe_cmp (pc_dinN hu pe_w pe_w) hm) (EvS.mki fun σ F H l g d Q q =>
  hk σ F H l g d _ fun v F1 H1 l1 w1 p1 _ => hd σ F1 H1 l (g.grow w1) (d.grow g.t w1) _ fun u F2 H2 l2 w2 ⟨_, h⟩ _ => by
    obtain ⟨a, ws, h1, h2, h3⟩ := hD h
    cases o with
    | none => exact .inr ⟨a, ws, h1, p1.2, rd_ex w2.e h2, q _ F2 H2 (w1.trans w2) rfl⟩
    | some s =>
      have t := h3.get (Sum.inr s)
      refine .inl ⟨a, valV ws (Sum.inr s), h1, .inl ⟨ws, Sum.inr s, rd_ex w2.e h2, (show v = V.str s from p1.2), rfl⟩, q _ F2 H2 (w1.trans w2) ?_⟩
      show V.bl _ = V.bl _
      rw [show ink kvs (some s) = (kget kvs (Sum.inr s)).isSome from rfl]
      cases z : kget kvs (Sum.inr s) with
      | none => rw [z] at t; rw [t]; rfl
      | some y => rw [z] at t; obtain ⟨u, t, _⟩ := t; rw [t]; rfl)
theorem TV.inN (hD : Dic D S) (hu : X.A.units + 1 < cLine) (hk : EV X b Γ e1 (im (rO rS) o)) (hd : EV X b Γ e2 (im D kvs)) (hm : behindInMarks .In e2 = false := by rfl) : TV X b Γ (.Compare e1 [.In] [e2] pos) (ink kvs o) := TV.of (pt_cmp (pc_dinN hu pe_w pe_w) hm) (TvS.testB (EvS.mki fun σ F H l g d Q q =>
  hk σ F H l g d _ fun v F1 H1 l1 w1 p1 _ => hd σ F1 H1 l (g.grow w1) (d.grow g.t w1) _ fun u F2 H2 l2 w2 ⟨_, h⟩ _ => by
    obtain ⟨a, ws, h1, h2, h3⟩ := hD h
    cases o with
    | none => exact .inr ⟨a, ws, h1, p1.2, rd_ex w2.e h2, q _ F2 H2 (w1.trans w2) rfl⟩
    | some s =>
      have t := h3.get (Sum.inr s)
      refine .inl ⟨a, valV ws (Sum.inr s), h1, .inl ⟨ws, Sum.inr s, rd_ex w2.e h2, (show v = V.str s from p1.2), rfl⟩, q _ F2 H2 (w1.trans w2) ?_⟩
      show V.bl _ = V.bl _
      rw [show ink kvs (some s) = (kget kvs (Sum.inr s)).isSome from rfl]
      cases z : kget kvs (Sum.inr s) with
      | none => rw [z] at t; rw [t]; rfl
      | some y => rw [z] at t; obtain ⟨u, t, _⟩ := t; rw [t]; rfl))
theorem TV.inK (hD : Dic D S) {k : Key} (hu : X.A.units + 1 < cLine) (hk : EV X b Γ e1 (im R x)) (hx : ∀ F v, R.r F v x → v = kV k) (hd : EV X b Γ e2 (im D kvs)) (hm : behindInMarks .In e2 = false := by rfl) : TV X b Γ (.Compare e1 [.In] [e2] pos) (kget kvs k).isSome := TV.of (pt_cmp (pc_din hu pe_w pe_w) hm) (TvS.testB (EvS.mki fun σ F H l g d Q q =>
  hk σ F H l g d _ fun v F1 H1 l1 w1 p1 _ => hd σ F1 H1 l (g.grow w1) (d.grow g.t w1) _ fun u F2 H2 l2 w2 ⟨_, h⟩ _ => by
    obtain ⟨a, ws, h1, h2, h3⟩ := hD h
    refine ⟨a, valV ws k, h1, .inl ⟨ws, k, rd_ex w2.e h2, hx F1 v p1.2, rfl⟩, q _ F2 H2 (w1.trans w2) ?_⟩
    have t := h3.get k
    show V.bl _ = V.bl _
    cases z : kget kvs k with
    | none => rw [z] at t; rw [t]; rfl
    | some y => rw [z] at t; obtain ⟨u, t, _⟩ := t; rw [t]; rfl))
theorem TV.ninK (hD : Dic D S) {k : Key} (hu : X.A.units + 1 < cLine) (hk : EV X b Γ e1 (im R x)) (hx : ∀ F v, R.r F v x → v = kV k) (hd : EV X b Γ e2 (im D kvs)) (hm : behindInMarks .NotIn e2 = false := by rfl) : TV X b Γ (.Compare e1 [.NotIn] [e2] pos) (!(kget kvs k).isSome) := TV.of (pt_cmp (pc_dnotin hu pe_w pe_w) hm) (TvS.testB (EvS.mki fun σ F H l g d Q q =>
  hk σ F H l g d _ fun v F1 H1 l1 w1 p1 _ => hd σ F1 H1 l (g.grow w1) (d.grow g.t w1) _ fun u F2 H2 l2 w2 ⟨_, h⟩ _ => by
    obtain ⟨a, ws, h1, h2, h3⟩ := hD h
    refine ⟨a, valV ws k, h1, .inl ⟨ws, k, rd_ex w2.e h2, hx F1 v p1.2, rfl⟩, q _ F2 H2 (w1.trans w2) ?_⟩
    have t := h3.get k
    show V.bl _ = V.bl _
    cases z : kget kvs k with
    | none => rw [z] at t; rw [t]; rfl
    | some y => rw [z] at t; obtain ⟨u, t, _⟩ := t; rw [t]; rfl))
end
/-- rows with texts for keys -/
def kvS {β : Type} (l : List (Str × β)) : List (Key × β) := l.map fun p => ((Sum.inr p.1 : Key), p.2)
theorem kvS_ks {β : Type} (l : List (Str × β)) : ks (kvS l) (l.map (·.1)) := by
  unfold ks kvS
  rw [List.map_map, List.map_map]; rfl
theorem kget_kvS {β : Type} (l : List (Str × β)) (s : Str) : kget (kvS l) (Sum.inr s) = (l.find? fun p => decide (p.1 = s)).map (·.2) := by
  unfold kget kvS
  induction l with
  | nil => rfl
  | cons p l ih =>
    rw [List.map_cons, List.find?_cons, List.find?_cons]
    by_cases h : p.1 = s
    · rw [decide_eq_true h, decide_eq_true (show (Sum.inr p.1 : Key) = Sum.inr s by rw [h])]; rfl
    · rw [decide_eq_false h, decide_eq_false (show ¬ (Sum.inr p.1 : Key) = Sum.inr s from fun z => h (Sum.inr.inj z))]; exact ih
theorem kget_some {β : Type} (l : List (Str × β)) (s : Str) : (kget (kvS l) (Sum.inr s)).isSome = decide (s ∈ l.map (·.1)) := by
  rw [kget_kvS, Option.isSome_map]
  induction l with
  | nil => rfl
  | cons p l ih =>
    rw [List.find?_cons, List.map_cons]
    by_cases h : p.1 = s
    · rw [decide_eq_true h]; simp [h]
    · have h' : ¬ s = p.1 := fun z => h z.symm
      rw [decide_eq_false h]
      show (l.find? _).isSome = _
      rw [ih]; simp [h']
theorem kput_new {β : Type} (l : List (Str × β)) (s : Str) (v : β) (h : s ∉ l.map (·.1)) : kput (kvS l) (Sum.inr s) v = kvS (l ++ [(s, v)]) := by
  unfold kput
  rw [if_neg]
  · unfold kvS; rw [List.map_append]; rfl
  · intro q
    obtain ⟨kv, h1, h2⟩ := List.any_eq_true.mp q
    obtain ⟨p, hp, rfl⟩ := List.mem_map.mp h1
    have z : (Sum.inr p.1 : Key) = Sum.inr s := of_decide_eq_true h2
    exact h (List.mem_map.mpr ⟨p, hp, Sum.inr.inj z⟩)
end Lg

namespace Lg
open PySem L2 Evl PyProof.Rows
/-! ### own errors that keep a field; their base is an own class -/
structure BasC (K : PySem.W.Frag) (mg : Str → Option Value) (x : Str) (C : Addr) : Prop where
  g : mg x = some (.ref C)
  rd : ClX.CRead K C (.type "type")
  at_ : PySem.W.findCls K (.ref C) (.type "type") "__init__" = some (.val (.builtin "ValueError.__init__"))
section
variable {X : Cx} {e : Expr} {es : List Expr} {ta : TA} {p1 p2 pos : Pos} {nx : Str} {CB : Addr}
/-- Base.__init__(self, ..) -/
theorem pe_basinit {pl : Sem Bool} (T : BasC X.K X.mg nx CB) (ha : PA X (e :: es) ta) (hg : Gl X nx := by rfl) (hdb : (nx == ("__debug__" : Str)) = false := by decide)
    (hev : eval (.Call (.Attribute (.Name nx p1) "__init__" p2) (e :: es) [] pos) X.env = (do
      let o ← eval (.Name nx p1) X.env
      standAt p2.atName
      let (m, first) ← holding [o] (getMethod o "__init__" pl)
      callWith pos m first (backTo pos (starEach (e :: es) X.env)) (backToKw pos (keywordEach [] X.env))) := by rfl)
    (hst : starEach (e :: es) X.env = (false, eval e X.env) :: starEach es X.env := by rfl) (hno : (backTo pos (starEach es X.env)).any (·.1) = false := by rfl) :
    PE X (.Call (.Attribute (.Name nx p1) "__init__" p2) (e :: es) [] pos) (tVeI X.K ta) := by
  constructor
  intro pins s σ H Q I q0
  refine PySem.W.methodCall_KW (ld_glob I hg T.g ?_ hdb) hev
  refine PySem.W.method_cls I.kIn T.rd.ga (PySem.W.cls_value I.kIn T.rd.rd T.at_ rfl ?_)
  show wpAny _ _ (callWith pos (Value.builtin "ValueError.__init__") [] (backTo pos (starEach (e :: es) X.env)) []) _ _ _
  refine PyProof.Rows.callWith_method1 (thn (ha.run pos pins _ σ H _ (I.tok _) q0) fun us s1 ⟨vs, H1, I1, r1, a, C, ws, hvs, hw, TC, he1, q1⟩ => ?_) hst hno
  rw [hvs] at r1
  cases r1 with
  | @cons _ u0 _ ur r0 rr =>
    have hu0 : u0 = Value.ref a := r0
    rw [hu0]
    exact oinit_ok TC I1 he1 (by rw [← Paired.length rr, sizeLine_eq]; omega) fun s2 J => ⟨.non, H1, J, rfl, q1⟩
end
/-- C(e) of an own class with an __init__, the context None -/
theorem pmk_oexN {X : Cx} {CX : CXT} {x : Str} {e : Expr} {ta : TA} {p p' : Pos} {C fI : Addr} {k : Nat} {fd : FuncData} {ps : List Str} {sp : Sp} (T : OexC X.K C) (iC : PySem.W.findIn X.K (.ref C) "__init__" = some (some (.ref fI))) (tI : PySem.W.typeIn X.K (.ref fI) = some (.type "function"))
    (F1 : FnOk X.prog X.w X.K X.mg X.base CX k fI fd ps sp) (hr : Room (k + 1) X.A) (hb : Binds X.K fd ps []) (hx : Passes CX X (fun _ _ _ => False)) (hg : Gl X x) (hm : X.mg x = some (.ref C)) (ha : PA X [e] ta) (hd : (x == ("__debug__" : Str)) = false) (he : starEach [e] X.env = (false, eval e X.env) :: starEach [] X.env) :
    L2N.PMk X (.Call (.Name x p) [e] [] p') (tMkO C sp [] ta) := fun pins s σ H Q I h => by
  obtain ⟨nm, q, N, bs, bm, sn, sub, ab, col, dd, k0, k1, k2, k3, k5, hC, hbm⟩ := T.cls
  refine wpAny_Call_Name_kw (ld_glob I hg hm (PySem.W.callWith_K (h₀ := X.base) I.ok.mod.kin T.kC (thn (ha.run p' pins s σ H _ I h) fun us s1 ⟨vs, H1, I1, r1, hz, q1⟩ => ⟨I1.kIn, ?_⟩) he (by rfl)) hd)
  obtain ⟨hp, g, dr, tk, os⟩ := s1
  generalize ea : hp.objs.size + 1 = a
  have hq := q1 a (I1.hok.fresh (by rw [← ea]; exact Nat.le_succ _))
  rw [List.append_nil] at hq
  generalize eh : (hp.push (PySem.W.kdv_tup us)).push (PySem.HandSPX.excO C hp.objs.size) = h2
  have kk : ∀ b o, hp.get? b = some o → h2.get? b = some o := fun b o e => by
    rw [← eh]; exact Heap.get?_push_of_some _ (Heap.get?_push_of_some _ e)
  have hget : h2.get? a = some (PySem.HandSPX.excO C hp.objs.size) := by
    rw [← eh, ← ea]; heap_get
  have hsz : hp.objs.size ≤ a := by rw [← ea]; exact Nat.le_succ _
  have I2 : Inv X pins σ (upd H1 a (exo a C none)) ⟨h2, g, dr, tk, os⟩ := I1.laid (t' := tk) kk hsz (exo_ok hget)
  have r2 : Vals (V.ref a :: vs) (Value.ref a :: us) := .cons rfl r1
  have hl : (Value.ref a :: us ++ []).length = ps.length := by rw [List.append_nil, ← F1.len _ _ _ _ hq]; exact r2.length.symm
  have b2 := hb _ (Value.ref a :: us) I2.kIn hl
  rw [List.append_nil] at b2
  have run := F1.run _ X.stack _ _ ⟨Value.ref a :: us, []⟩ _ _ _ (fun _ _ _ => False) (hr.make C us []) (I2.env0.make C us []) b2 r2 hq
  refine wpAny_call (PySem.HandSPX.call_own F.excBase_ValueError (fun Y => PySem.HandSPX.refsVE_contains Y bm hbm) (I1.kIn _ _ hC) (PySem.W.looks_findIn I1.kIn iC) (fun self => PySem.W.bind_fn I1.kIn self tI) (by show us.length ≤ sizeLine; rw [← Paired.length r1, sizeLine_eq]; omega) (codeAny_mono (by rw [← eh, ← ea] at run; exact run) fun r s' hq' => ?_))
  rw [eh, ea] at hq'
  cases r with
  | error er => exact hx pins σ _ _ er s' I2 hq'
  | ok fl =>
    cases fl with
    | ret u =>
      obtain ⟨v, H2, os2, bare2, un2, hok2, rv, ev, d, fs, ea2, ed, hd1, q2⟩ := hq'
      rw [ev] at rv
      obtain ⟨h3, g3, d3, t3, os3⟩ := s'
      obtain ⟨t0, G, J, kG, ge, hoe, na⟩ := mk_end0 (d2 := d3) (t2 := t3) I1 hsz kk un2 hok2 os2 bare2 ea2 ed hd1
      rw [ea]
      exact ⟨rv, a, _, _, ⟨G, g3, d3, t3, os3⟩, _, .ref C, some d, rfl, J, kG, ge, hoe, ⟨rfl, rfl, fun vs hv => by cases hv; rfl⟩, rfl, rfl, na, rfl, bare2, raises_own T.exC T.tyC, q2⟩
    | next => exact False.elim hq'
    | brk => exact False.elim hq'
    | cont => exact False.elim hq'
/-- what is known of an own error with one field -/
structure FldC (P : Program) (w : World) (K : PySem.W.Frag) (mg : Str → Option Value) (base : Heap) (k : Nat) (x f : Str) (C : Addr) : Prop where
  T : OexC K C
  g : mg x = some (.ref C)
  ex : ∃ fI fd, PySem.W.findIn K (.ref C) "__init__" = some (some (.ref fI)) ∧ PySem.W.typeIn K (.ref fI) = some (.type "function") ∧ Binds K fd ["self", f] [] ∧
    FnOk P w K mg base (L2N.CX P w) k fI fd ["self", f] (fun vs H Q _ => ∃ (a : Addr) (z : Str), vs = [.ref a, .str z] ∧ z.length ≤ 1000 ∧ H a = some (exo a C none) ∧ ∀ dx, H dx = none → dx ≠ a → Q .non (upd (upd H dx (exd dx [(f, .str z)])) a (exo a C (some dx))))
def XwF (b : Bs) (Γ : Ctx) (W : WX) (C : Addr) (fs : List (Str × V)) : Prop := ∀ σ F H d, Sg b Γ σ F H → H d = none → W (.ref C) (some d) σ (upd H d (.xd fs))
section
variable {X : Cx} {b : Bs} {D : EndC} {Γ : Ctx} {nx f : Str} {C : Addr} {k : Nat} {e : Expr} {z : Str} {W : WX} {p pos pos' : Pos} {rest : List Stmt}
theorem HT.raiseF (T : FldC X.prog X.w X.K X.mg X.base k nx f C) (hr : Room (k + 1) X.A) (tk : L2N.Takes X W) (he : EV X b Γ e (im rS z)) (hz : z.length ≤ 1000) (hW : XwF b Γ W C [(f, .str z)]) (hc : X.calm = true := by rfl) (hg : Gl X nx := by rfl) (hse : starEach [e] X.env = (false, eval e X.env) :: starEach [] X.env := by rfl) (hdb : (nx == ("__debug__" : Str)) = false := by decide) : HT X b D Γ (.Raise (some (.Call (.Name nx p) [e] [] pos')) none pos :: rest) := by
  obtain ⟨fI, fd, h1, h2, hb, F⟩ := T.ex
  refine HT.step (L2N.ps_raise hc tk (pmk_oexN T.T h1 h2 F hr hb (fun _ _ _ _ _ _ _ ⟨_, _, _, _, _, _, _, _, _, _, _, _, x⟩ => x.elim) hg T.g (pa_cons pe_w pa_nil hse) hdb hse)) fun σ F H ⟨l, g, d⟩ => ?_
  refine he σ F H l g d _ fun v F' H' l' w q _ => ⟨by show 1 ≤ 1000; decide, fun a ha => ⟨a, z, by rw [show v = V.str z from q.2]; rfl, hz, upd_same, fun dx hd hne => ⟨rfl, dx, [(f, .str z)], upd_same, ?_, ?_, ?_⟩⟩⟩
  · rw [upd_ne hne, upd_same]
  · rw [upd_ne hne] at hd; exact hd
  · rw [upd_ne hne] at hd
    have e : upd (del (upd (upd (upd H' a (exo a C none)) dx (exd dx [(f, .str z)])) a (exo a C (some dx))) a) dx (.xd [(f, .str z)]) = upd H' dx (.xd [(f, .str z)]) := by
      funext c
      by_cases h1 : c = dx
      · rw [h1, upd_same, upd_same]
      · rw [upd_ne h1, upd_ne h1]
        by_cases h2 : c = a
        · rw [h2, del_same, ha]
        · rw [del_ne h2, upd_ne h2, upd_ne h1, upd_ne h2]
    rw [e]
    exact hW σ F' H' dx ⟨l, g.grow w, d.grow g.t w⟩ hd
end
end Lg

namespace Lg
open PySem L2 Evl PyProof.Rows
/-! ### promises with errors that keep a field -/
inductive Ry where
  | ok (s : Sl)
  | err (C : Addr)
  | errF (C : Addr) (fs : List (Str × V))
def spY {ι : Type} (A : ι → List Im) (pre : ι → Prop) (res : ι → Ry) : Sp := fun vs H Q E => ∃ (i : ι) (F : Hp), Ex F H ∧ Ims F vs (A i) ∧ pre i ∧
  (∀ s, res i = .ok s → ∀ v F' H' l', Gw F H F' H' → s.P F' H' v l' → (∀ a ∈ l', H a = none ∧ F' a = none) → Q v H') ∧ (∀ C, res i = .err C → ∀ H', Ex H H' → E (.ref C) none H') ∧
  (∀ C fs, res i = .errF C fs → ∀ H' d, Ex H H' → H' d = none → E (.ref C) (some d) (upd H' d (.xd fs)))
section
variable {P : Program} {w : World} {K : PySem.W.Frag} {mg : Str → Option Value} {base : Heap} {x qual : Str} {st : Stmt} {f : Addr} {fd : FuncData} {N ps : List Str} {k : Nat} {ι : Type} {A : ι → List Im} {pre : ι → Prop} {res : ι → Ry}
theorem fn_okY (F : Fun K x qual st f fd) (S : FnScope N ps (defScope st)) (hA : ∀ i, (A i).length = ps.length)
    (body : ∀ (i : ι) (B : Bs) (cdv : Value) (A' : Around) (outer : List Env) (s : Shared) (H : Hp) (E : XK), pre i → Room k (A'.deeper (envOfC qual (defScope st) s.heap.objs.size f cdv)) → (∀ C, res i = .err C → ∀ H', Ex B.B H' → E (.ref C) none H') →
      (∀ C fs, res i = .errF C fs → ∀ H' d, Ex B.B H' → H' d = none → E (.ref C) (some d) (upd H' d (.xd fs))) →
      HT (cxOf (L2N.CX P w) P w K mg base N qual (defScope st) f cdv A' outer s H E) B ⟨fun _ => res i = .ok (im rU ()), fun s => res i = .ok s, fun _ => False, fun _ => False⟩ (c0 (A i) (N.length - ps.length)) (defBody st)) :
    FnOk P w K mg base (L2N.CX P w) (k + 1) f fd ps (spY A pre res) := by
  refine okN F S (fun vs H Q E ⟨i, F, _, hv, _⟩ => by rw [hv.len, hA i]) fun cdv A' outer s H vs Q E hr ⟨i, F0, hF, hv, hp, h1, h2, h3⟩ => ⟨_, pss_w, ?_⟩
  have hn : vs.length = ps.length := by rw [hv.len, hA i]
  have g0 : Sg ⟨F0, H⟩ (c0 (A i) (N.length - ps.length)) (L2.start N vs) F0 H := ⟨[], by
    unfold L2.start
    rw [hn]
    exact SgL.args _ hv, Ex.refl _, Ex.refl _, hF, fun _ h _ => h, List.nodup_nil, fun _ h => (nomatch h), fun _ h => nomatch h⟩
  refine wS.mono (body i ⟨F0, H⟩ cdv A' outer s H E hp hr h2 h3 _ F0 H g0) (fun σ' H' h => ?_) (fun v H' h => ?_) (fun _ _ h => ?_) (fun _ _ h => ?_)
  · obtain ⟨Γ, F', ⟨l, _, d⟩, h⟩ := h
    exact h1 _ h .non F' H' [] ⟨d.ef, d.eb, d.e, fun a q1 q2 => d.k a q1 q2⟩ ⟨rfl, rfl⟩ fun _ h => nomatch h
  · obtain ⟨s', F', l, p, d, h⟩ := h
    exact h1 _ h v F' H' l ⟨d.ef, d.eb, d.e, fun a q1 q2 => d.k a q1 q2⟩ p fun a ha => ⟨d.ob a ha, d.of a ha⟩
  · obtain ⟨_, _, _, h⟩ := h; exact h.elim
  · obtain ⟨_, _, _, h⟩ := h; exact h.elim
end
section
variable {X : Cx} {b : Bs} {Γ : Ctx} {k : Nat} {x m : Str} {ps : List Str} {ι β : Type} {A : ι → List Im} {pre : ι → Prop} {res : ι → Ry} {i : ι} {s : Sl} {e o : Expr} {es : List Expr} {p pos apos : Pos} {W : WX} {C : Addr} {R : Rl β} {y : β} {xs : List Im}
theorem EV.callY (T : Kn X.prog X.w X.K X.mg X.base k x ps (spY A pre res)) (hr : Room k X.A) (tk : L2N.Takes X W) (ha : AV X b Γ (e :: es) (A i)) (hp : pre i) (h1 : ∀ s', res i = .ok s' → s' = s) (h2 : ∀ C, res i = .err C → Xw b Γ W C) (h3 : ∀ C fs, res i = .errF C fs → XwF b Γ W C fs) (hg : Gl X x := by rfl)
    (hdb : (x == ("__debug__" : Str)) = false := by decide) (he : starEach (e :: es) X.env = (false, eval e X.env) :: starEach es X.env := by rfl) (hpl : (backTo pos (starEach es X.env)).any (·.1) = false := by rfl) : EV X b Γ (.Call (.Name x p) (e :: es) [] pos) s := by
  obtain ⟨ta, p1, p2⟩ := ha
  obtain ⟨f, fd, F, hm, hk, hb⟩ := T.ex
  refine EV.of (pe_callS F hr hg hm hk hb (fun σ => L2N.passAt tk σ) p1 hdb he hpl) fun σ F H l g d Q q => p2 σ F H l g d _ fun vs F1 H1 w hv => ?_
  refine ⟨i, F1, w.e, hv, hp, fun s' hs v F' H' l' w' p f => ?_, fun C hC H' h => ?_, fun C fs hC H' dd h hd => ?_⟩
  · rw [h1 s' hs] at p
    exact q v F' H' l' (w.trans w') p fun a ha => ⟨ex_none w.h (f a ha).1, (f a ha).2⟩
  · have w2 := w.trans (Ex.gw w.e h)
    exact h2 C hC σ F1 H' ⟨l, g.grow w2, d.grow g.t w2⟩
  · have w2 := w.trans (Ex.gw w.e h)
    exact h3 C fs hC σ F1 H' dd ⟨l, g.grow w2, d.grow g.t w2⟩ hd
/-- o.m(..) -/
theorem EV.methY {pl : Sem Bool} (T : KnM X.prog X.w X.K X.mg X.base k C m ps (spY A pre res)) (hr : Room k X.A) (tk : L2N.Takes X W) (ho : EV X b Γ o (im R y)) (hR : ∀ F v, R.r F v y → ∃ a dx fs, v = .ref a ∧ F a = some (.ins C dx fs) ∧ fs.lookup m = none) (ha : AV X b Γ (e :: es) xs) (hA : A i = mk R y :: xs) (hp : pre i)
    (h1 : ∀ s', res i = .ok s' → s' = s) (h2 : ∀ C, res i = .err C → Xw b Γ W C) (h3 : ∀ C fs, res i = .errF C fs → XwF b Γ W C fs)
    (hst : starEach (e :: es) X.env = (false, eval e X.env) :: starEach es X.env := by rfl) (hpl : (backTo pos (starEach es X.env)).any (·.1) = false := by rfl)
    (ht : eval (.Call (.Attribute o m apos) (e :: es) [] pos) X.env = (do
      let ov ← eval o X.env
      standAt apos.atName
      let (f, first) ← holding [ov] (getMethod ov m pl)
      callWith pos f first (backTo pos (starEach (e :: es) X.env)) (backToKw pos (keywordEach [] X.env))) := by rfl) : EV X b Γ (.Call (.Attribute o m apos) (e :: es) [] pos) s := by
  obtain ⟨ta, p1, p2⟩ := ha
  obtain ⟨f, fd, F, hm, hb⟩ := T.ex
  refine EV.of (pe_methX pe_w T.cl hm F hr hb (fun σ => L2N.passAt tk σ) p1 hst hpl ht) fun σ F H l g d Q q => ho σ F H l g d _ fun v F1 H1 l1 w ⟨_, hv⟩ _ => ?_
  obtain ⟨a, dx, fs, rfl, ha, hl⟩ := hR F1 v hv
  refine ⟨a, dx, fs, rfl, w.e a _ ha, hl, p2 σ F1 H1 l (g.grow w) (d.grow g.t w) _ fun vs F2 H2 w1 hvs => ?_⟩
  have w := w.trans w1
  refine ⟨i, F2, w.e, by rw [hA]; exact .cons (R.m w1.f hv) hvs, hp, fun s' hs v F' H' l' w' p f => ?_, fun C hC H' h => ?_, fun C fs hC H' dd h hd => ?_⟩
  · rw [h1 s' hs] at p
    exact q v F' H' l' (w.trans w') p fun a ha => ⟨ex_none w.h (f a ha).1, (f a ha).2⟩
  · have w2 := w.trans (Ex.gw w.e h)
    exact h2 C hC σ F2 H' ⟨l, g.grow w2, d.grow g.t w2⟩
  · have w2 := w.trans (Ex.gw w.e h)
    exact h3 C fs hC σ F2 H' dd ⟨l, g.grow w2, d.grow g.t w2⟩ hd
end
/-! ### the suite that takes both -/
/-- a caught error at a, its dict at d -/
def xe (a d : Addr) (fs : List (Str × V)) : Sl where
  P := fun F _ v l => l = [] ∧ v = .ref a ∧ F d = some (.xd fs)
  m := fun e _ h => ⟨h.1, h.2.1, e d _ h.2.2⟩
  t := fun h a ha => by rw [h.1] at ha; cases ha
  d := fun h => by rw [h.1]; exact List.nodup_nil
section
variable {X : Cx} {b : Bs} {D : EndC} {Γ : Ctx} {CB : Addr} {n nx : Str} {pos np pos' : Pos} {rest bd suite : List Stmt} {i : Nat} {Wout : WX} {b₀ : Stmt}
abbrev SuC (X : Cx) (b : Bs) (D : EndC) (i : Nat) (rest : List Stmt) : EndC := ⟨fun Γ => HT X b D (Γ.set i none) rest, D.rt, fun Γ => D.bk (Γ.set i none), fun Γ => D.ct (Γ.set i none)⟩
theorem HT.tryAsF (i : Nat) (hc : Names X nx (.ref CB)) (tk : L2N.Takes X Wout)
    (hb : ∀ (W : WX) (pn : List (Addr × Obj)) (xE : Value → Shared → Prop), L2N.Takes (X.tr pn xE) W → PassesOwn (model X.prog X.w) X.A X.env xE →
      (∀ (Γ' : Ctx) (C : Addr) (b' : Bs), Up b b' → PySem.W.exmOne X.K (.ref C) (.ref CB) = some true → (∀ (a : Addr) (oe : Obj) (pn : List (Addr × Obj)), L2N.Zn (.ref C) none oe → (∃ vs, oe.data = .fields vs) →
        HT (X.suite a ((a, oe) :: pn)) b (SuC X b D i rest) (Γ'.set i (some (vx (.ref a)))) (b₀ :: suite)) → Xw b' Γ' W C) →
      (∀ (Γ' : Ctx) (C : Addr) (fs : List (Str × V)) (b' : Bs), Up b b' → PySem.W.exmOne X.K (.ref C) (.ref CB) = some true → (∀ (a d : Addr) (oe : Obj) (pn : List (Addr × Obj)), L2N.Zn (.ref C) (some d) oe → (∃ vs, oe.data = .fields vs) →
        HT (X.suite a ((a, oe) :: pn)) b (SuC X b D i rest) (Γ'.set i (some (xe a d fs))) (b₀ :: suite)) → XwF b' Γ' W C fs) →
      HT (X.tr pn xE) b (D.into X b rest) Γ bd)
    (nd : X.N.Nodup) (hs : X.stack = X.env :: X.outer := by rfl) (hf : X.env.frame = some X.env.locals := by rfl) (hi : X.N[i]? = some n := by rfl) (hln : X.env.kindOf n = some .local := by rfl) :
    HT X b D Γ (.Try bd [.ExceptHandler (some (.Name nx np)) (some n) (b₀ :: suite) pos'] [] [] pos :: rest) :=
  HT.step (L2N.ps_try_as (tb := fun W D σ H => ∀ pn xE, L2N.Takes (X.tr pn xE) W → PassesOwn (model X.prog X.w) X.A X.env xE → wS (X.tr pn xE) bd D σ H) (ts := fun a cls d D σ H => ∀ oe pn, L2N.Zn cls d oe → (∃ vs, oe.data = .fields vs) → wS (X.suite a ((a, oe) :: pn)) (b₀ :: suite) D σ H)
    hs hf nd hi hln hc tk (fun W pn xE tk po => ⟨fun pins s σ H D I h => h pn xE tk po pins s I⟩) (fun a oe cls d pn hz hv => ⟨fun pins s σ H D I h => h oe pn hz hv pins s I⟩)) fun σ F H g pn xE tk2 po => by
    have back : ∀ (Q : Ctx → Prop) σ2 H2, At b (fun Γ => Q (Γ.set i none)) σ2 H2 → At b Q (σ2.set i none) H2 := fun Q σ2 H2 ⟨Γ2, F2, ⟨l, g2, d2⟩, q⟩ => by
      obtain ⟨l2, k1, k2, k3⟩ := SgL.put (o' := none) (w := none) (l' := []) trivial List.nodup_nil i g2 d2.nd (fun _ h => nomatch h)
      exact ⟨_, F2, ⟨l2, k1, d2.of_l k2 fun a ha => by
        rcases k3 a ha with z | z
        · exact ⟨d2.of a z, d2.ob a z⟩
        · cases z⟩, q⟩
    have fin : ∀ {X' : Cx} {σ' H'} {sts : List Stmt}, wS X' sts ((SuC X b D i rest).ends b) σ' H' → wS X' sts { nx := fun σ' H' => wS X rest (D.ends b) (σ'.set i none) H', rt := (D.ends b).rt, bk := fun σ' H' => (D.ends b).bk (σ'.set i none) H', ct := fun σ' H' => (D.ends b).ct (σ'.set i none) H' } σ' H' := fun h =>
      wS.mono h (fun σ2 H2 h => by
        obtain ⟨Γ3, F3, g3, h3⟩ := back (fun Γ => HT X b D Γ rest) σ2 H2 h
        exact h3 _ F3 H2 g3) (fun _ _ h => h) (fun σ2 H2 h => back _ σ2 H2 h) (fun σ2 H2 h => back _ σ2 H2 h)
    refine HT.into (hb _ pn xE tk2 po (fun Γ' C b' u hex hsu σ' F' H' g' => ?_) (fun Γ' C fs b' u hex hsu σ' F' H' dd g' hd => ?_) σ F H g)
    · have g' := u.sg g'
      exact ⟨true, hex, fun _ a ha oe pn2 hz hv => fin (hsu a oe pn2 hz hv _ F' H' (Sg.put0 i g' ⟨rfl, rfl⟩)), fun z => nomatch z⟩
    · obtain ⟨l', g1, d1⟩ := u.sg g'
      have w := Gw.new (o := .xd fs) d1.e hd
      exact ⟨true, hex, fun _ a ha oe pn2 hz hv => fin (hsu a dd oe pn2 hz hv _ _ _ (Sg.put0 (s := xe a dd fs) i ⟨l', g1.grow w, d1.grow g1.t w⟩ ⟨rfl, rfl, upd_same⟩)), fun z => nomatch z⟩
/-- e.f -/
theorem EV.xf {a d C : Addr} {oe : Obj} {pn : List (Addr × Obj)} {fs : List (Str × V)} {f : Str} {z : Str} (T : XfC X.K C) (hno : PySem.W.findIn X.K (.ref C) f = some none) (hz : L2N.Zn (.ref C) (some d) oe) (hf : ∃ vs, oe.data = .fields vs) (i : Nat) (hΓ : Γ[i]? = some (some (xe a d fs))) (hl : fs.lookup f = some (.str z))
    (hN : X.N[i]? = some n := by rfl) (hv : Vis X.env.scope n := by first | exact Or.inl rfl | exact Or.inr (Or.inl rfl) | exact Or.inr (Or.inr rfl)) (hd : (n == ("__debug__" : Str)) = false := by decide) (hcd : (n == ("__classdict__" : Str)) = false := by decide)
    (hb : attributeBase (.Name n np) f X.env (eval (.Name n np) X.env) = eval (.Name n np) X.env := by rfl) : EV (X.suite a ((a, oe) :: pn)) b Γ (.Attribute (.Name n np) f pos) (im rS z) :=
  EV.of (pe_xf (X := X) T hno hz.zc hf (pe_var hN hv hd hcd) hb) (EvS.mki fun σ F H l g dd Q q => by
    obtain ⟨v, l1, h1, h2, _⟩ := g.get hΓ
    exact ⟨v, h1, h2.2.1, rfl, d, fs, .str z, rfl, dd.e d _ h2.2.2, hl, q _ F H (Gw.refl dd.e) rfl⟩)
end
end Lg

namespace Lg
open PySem L2 Evl PyProof.Rows PySem.W PySem.Calls
/-! ### isinstance of an error that has a dict -/
section
variable {prog : Program} {w : World} {A : Around} {E : Value → Shared → Prop} {s : Shared} {K : Frag} {x D : Addr} {ox : Obj} {oD' : Option Obj}
theorem find_clsD (T : ExcC K D) : findObj K D oD' "__class__" = some (.bind (.builtin "getset_descriptor.__get__") (.builtin "object.__class__")) := by
  obtain ⟨cd, hc, _⟩ := any_some T.hd
  unfold findObj
  rw [hc, Option.bind_some, T.ha, Option.bind_some]
  simp [T.hn, T.ht]
theorem cls_of_err {Q : Option Value → Shared → Prop} (T : ExcC K D) (kin : K.In s.heap) (at_ : InstAt s.heap x ox D oD') (goal : Q (some (.ref D)) { s with toks := s.toks + 1 }) : wpAny (model prog w) A (getAttr? (.ref x) "__class__") Q E s := by
  have fnd : findObj K D oD' "__class__" = some (.bind (.builtin "getset_descriptor.__get__") (.builtin "object.__class__")) := find_clsD T
  obtain ⟨heap, gens, drawn, tick, osst⟩ := s
  have K0 := at_.type (M := model prog w)
  have K1 := looks_findIn (M := model prog w) kin T.hg
  have K2 := looks_findIn (M := model prog w) kin T.hk
  have K3 := looks_find (M := model prog w) kin at_ fnd
  have isE : Looks (model prog w) heap (isInstance (.ref x) (.type "BaseException")) true := K0.andThen (looks_subIn kin T.hs)
  have z0 : (false && onTheHeap (Value.builtin "BaseException.__getattribute__")) = false := rfl
  have z2 : (Value.builtin "BaseException.__getattribute__" == Value.builtin "object.__getattribute__") = false := by decide +kernel
  have z1 : (onTheHeap (Value.ref D) && Value.builtin "BaseException.__getattribute__" == Value.builtin "object.__getattribute__") = false := by rw [z2]; rfl
  unfold getAttr? getAttrBy? getAttrBy
  refine wpAny_bind (wpAny_mkText (wpAny_bind (wpAny_attempt (wpAny_holding (wpAny_bind (K0.at (wpAny_bind (K1.at ?_))))))))
  show wpAny _ _ (if (onTheHeap (Value.ref D) && Value.builtin "BaseException.__getattribute__" == Value.builtin "object.__getattribute__") = true then _ else _) _ _ _
  rw [z1, if_neg Bool.false_ne_true]
  unfold getAttrByItsOwn hookBefore
  refine wpAny_bind ?_
  rw [if_pos (show onTheHeap (Value.ref D) = true from rfl)]
  refine K2.at ?_
  refine wpAny_bind (wpAny_attempt (wpAny_holding ?_))
  unfold callGetattribute
  rw [z0, if_neg Bool.false_ne_true]
  unfold boundAndCalled
  rw [PySem.F.excAttr_ValueError.ga.bind (.ref x)]
  refine wpAny_bind (wpAny_pure ?_)
  show wpAny _ _ (call (.builtin "BaseException.__getattribute__") [.ref x, .str "__class__" tick]) _ _ _
  refine wpAny_call (codeAny_call_builtin PySem.F.excAttr_ValueError.ga.plain PySem.F.entry_bexc_ga ?_)
  refine @check_slot (model prog w) _ _ ⟨heap, gens, drawn, tick + 1, osst⟩ "BaseException.__getattribute__" "BaseException" "__getattribute__" (.ref x) [.str "__class__" tick] [] _ (by decide +kernel) (by decide +kernel) isE (PySem.F.args_bexc_ga (.ref x) (.str "__class__" tick)) ?_
  unfold Builtin.«object.__getattribute__»
  refine wpAny_bind (wpAny_of_eq (a := ((Value.ref x : Value), [Value.str "__class__" tick])) (by first | rfl | (simp only [slotArgs]; rfl)) ?_)
  refine wpAny_bind (wpAny_pure (wpAny_bind (K0.at (wpAny_bind (K3.at ?_)))))
  show wpAny _ _ (holding [Value.builtin "object.__class__"] (call (.builtin "getset_descriptor.__get__") [.builtin "object.__class__", .ref x, .ref D]) >>= ret) _ _ _
  refine wpAny_bind (wpAny_holding (wpAny_call (class_get (s := ⟨heap, gens, drawn, tick + 1, osst⟩) (ox := ox) (od := oD') kin at_ T.hm ?_)))
  refine wpAny_pure ?_
  show wpAny _ _ (handedOut (.ref D)) _ _ _
  rw [handedOut_of (v := .ref D) rfl]
  first
    | exact wpAny_pure (wpAny_pure goal)
    | exact wpAny_pure goal
    | exact wpAny_pure (wpAny_bind (wpAny_pure (wpAny_pure goal)))
theorem kitx_err (T : ExcC K D) : KitX K (.ref x) (.ref D) (fun h => InstAt h x ox D oD') where
  ty := fun _ _ _ I => I.type
  it := fun _ _ kin _ => by
    obtain ⟨cd, hc, _⟩ := any_some T.hd
    unfold clsIn at hc
    split at hc
    · rename_i c' d' cd' sl' ho
      intro A' Q' E' s' k q
      unfold isType loadHead
      exact wpAny_bind (wpAny_loadPart (k _ _ (kin _ _ ho)) (wpAny_pure q))
    · cases hc
  ne := fun h tp dd its n sl kin htp => by
    obtain ⟨cd, hc, _⟩ := any_some T.hd
    unfold clsIn at hc
    refine Bool.eq_false_iff.mpr fun q => ?_
    have e : D = tp := Value.ref.inj (beq_iff_eq.mp q)
    subst e
    split at hc
    · rename_i c' d' cd' sl' ho
      exact nomatch ((kin _ _ ho).symm.trans htp)
    · cases hc
  ca := fun kin I k => cls_of_err T kin I k
end
/-- isinstance(e, c), e the error that the suite holds, its dict at d -/
def rIsD (K : PySem.W.Frag) (D a d : Addr) : List V → Hp → VK → Prop := fun xs H Q => ∃ (c : V) (cv : Value) (b : Bool) (fs : List (Str × V)), xs = [.ref a, c] ∧ (∀ u, RelV c u → u = cv) ∧ PySem.W.kitOne K (.ref D) cv = some b ∧ H d = some (.xd fs) ∧ Q (.bl b) H
theorem call_isD {X : Cx} {a D d : Addr} {oe : Obj} {pn : List (Addr × Obj)} (T : ExcC X.K D) (hz : L2N.Zn (.ref D) (some d) oe) (hf : ∃ vs, oe.data = .fields vs) : CallR (X.suite a ((a, oe) :: pn)) (.builtin "isinstance") (rIsD X.K D a d) := by
  intro pins s σ H xs us Q I r h
  obtain ⟨c, cv, b, fs, rfl, hcv, e, hd, q⟩ := h
  cases r with
  | cons rx rr =>
    cases rr with
    | cons rt rr =>
      cases rr
      cases rx
      cases hcv _ rt
      obtain ⟨hget, _⟩ := I.pin (a, oe) (List.mem_append.mpr (.inl List.mem_cons_self))
      obtain ⟨vs, hv⟩ := hf
      have hx : ObjOk X.prog X.w H s.heap d (.xd fs) := I.hok d _ hd
      obtain ⟨mA, hns, hr⟩ := hx
      obtain ⟨od, ho, hl⟩ := lookIn_ns hns
      have J : PySem.W.InstAt s.heap a oe D (some od) := ⟨hget, hz.1, by unfold PySem.W.notCls; rw [hv] <;> rfl, by rw [hz.2.1]; exact ho⟩
      exact PySem.W.kia_one (kitx_err T) I.kIn J e (fun z => nomatch z) fun tk => ⟨.bl b, H, I.kept (t' := tk) fun _ _ z => z, rfl, q⟩
section
variable {X : Cx} {b : Bs} {Γ : Ctx} {n : Str} {pos : Pos}
theorem EV.isEF {a d D C' : Addr} {oe : Obj} {pn : List (Addr × Obj)} {fs : List (Str × V)} {c : Bool} {cx : Str} {p1 p2 p3 : Pos} (T : ExcC X.K D) (hz : L2N.Zn (.ref D) (some d) oe) (hf : ∃ vs, oe.data = .fields vs) (i : Nat) (hΓ : Γ[i]? = some (some (xe a d fs))) (hm : X.mg "isinstance" = none) (hC : X.mg cx = some (.ref C')) (hk : PySem.W.kitOne X.K (.ref D) (.ref C') = some c)
    (hN : X.N[i]? = some n := by rfl) (hv : Vis X.env.scope n := by first | exact Or.inl rfl | exact Or.inr (Or.inl rfl) | exact Or.inr (Or.inr rfl)) (hg : Gl X "isinstance" := by rfl) (hgc : Gl X cx := by rfl)
    (hd : (n == ("__debug__" : Str)) = false := by decide) (hcd : (n == ("__classdict__" : Str)) = false := by decide) (hdc : (cx == ("__debug__" : Str)) = false := by decide) :
    EV (X.suite a ((a, oe) :: pn)) b Γ (.Call (.Name "isinstance" p1) [.Name n p2, .Name cx p3] [] pos) (im rB c) :=
  EV.of (pe_callB (X := X.suite a ((a, oe) :: pn)) (call_isD T hz hf) hg hm (by decide +kernel) (pa_cons (pe_var hN hv hd hcd) (pa_cons (pe_glob (v := .ref C') hgc hC rfl hdc) pa_nil))) (EvS.mki fun σ F H l g dd Q q => by
    obtain ⟨v, l1, h1, h2, _⟩ := g.get hΓ
    refine ⟨v, h1, .ref C', .ref C', c, fs, by rw [h2.2.1], fun u hu => hu, hk, dd.e d _ h2.2.2, q _ F H (Gw.refl dd.e) rfl⟩)
end
end Lg

namespace Lg
open PySem L2 Evl PyProof.Rows
/-! ### a dict of lists, all one's own -/
inductive DL {α : Type} (R : Rl α) (F H : Hp) : List (Key × V) → List (Str × List α) → List Addr → Prop
  | nil : DL R F H [] [] []
  | cons {n : Str} {r : Addr} {xs : List V} {as : List α} {ws : List (Key × V)} {kvs : List (Str × List α)} {qs : List Addr} : H r = some (.lst xs) → All2 (R.r F) xs as → DL R F H ws kvs qs → DL R F H ((Sum.inr n, .ref r) :: ws) ((n, as) :: kvs) (r :: qs)
section
variable {α : Type} {R : Rl α} {F F' H H' : Hp} {ws : List (Key × V)} {kvs : List (Str × List α)} {qs : List Addr}
theorem DL.m (e : Ex F F') (h : DL R F H ws kvs qs) : (∀ r ∈ qs, H' r = H r) → DL R F' H' ws kvs qs := by
  induction h with
  | nil => exact fun _ => .nil
  | cons h1 h2 _ ih => exact fun k => .cons (by rw [k _ List.mem_cons_self]; exact h1) (h2.imp fun _ _ => R.m e) (ih fun r hr => k r (List.mem_cons_of_mem _ hr))
theorem DL.t (h : DL R F H ws kvs qs) : ∀ r ∈ qs, H r ≠ none := by
  induction h with
  | nil => exact fun _ z => nomatch z
  | cons h1 _ _ ih =>
    intro c hc
    rcases List.mem_cons.mp hc with z | z
    · rw [z, h1]; exact fun z => nomatch z
    · exact ih c z
theorem DL.keys (h : DL R F H ws kvs qs) : ws.map (·.1) = kvs.map fun p => (Sum.inr p.1 : Key) := by
  induction h with
  | nil => rfl
  | cons _ _ _ ih => rw [List.map_cons, List.map_cons, ih]
theorem DL.len (h : DL R F H ws kvs qs) : ws.length = kvs.length := by
  have := congrArg List.length h.keys
  rwa [List.length_map, List.length_map] at this
theorem DL.one (h : DL R F H ws kvs qs) {n : Str} {r : Addr} {xs : List V} {as : List α} (h1 : H r = some (.lst xs)) (h2 : All2 (R.r F) xs as) : DL R F H (ws ++ [(Sum.inr n, .ref r)]) (kvs ++ [(n, as)]) (qs ++ [r]) := by
  induction h with
  | nil => exact .cons h1 h2 .nil
  | cons a b _ ih => exact .cons a b ih
theorem put_fresh {ws : List (Key × V)} {k : Key} {v : V} (h : k ∉ ws.map (·.1)) : putK ws k v = ws ++ [(k, v)] := by
  unfold putK
  rw [if_neg]
  intro q
  obtain ⟨kv, h1, h2⟩ := List.any_eq_true.mp q
  exact h (List.mem_map.mpr ⟨kv, h1, of_decide_eq_true h2⟩)
end
/-- .. as a slot -/
def owDL {α : Type} (R : Rl α) (kvs : List (Str × List α)) : Sl where
  P := fun F H v l => ∃ q ws qs, v = .ref q ∧ l = q :: qs ∧ l.Nodup ∧ H q = some (.dK ws) ∧ DL R F H ws kvs qs
  m := fun e k ⟨q, ws, qs, h1, h2, h3, h4, h5⟩ => ⟨q, ws, qs, h1, h2, h3, by rw [k q (by rw [h2]; exact List.mem_cons_self)]; exact h4, h5.m e fun r hr => k r (by rw [h2]; exact List.mem_cons_of_mem _ hr)⟩
  t := fun ⟨q, ws, qs, h1, h2, h3, h4, h5⟩ a ha => by
    rw [h2] at ha
    rcases List.mem_cons.mp ha with z | z
    · rw [z, h4]; exact fun z => nomatch z
    · exact h5.t a z
  d := fun ⟨q, ws, qs, h1, h2, h3, h4, h5⟩ => h3
section
variable {X : Cx} {b : Bs} {Γ : Ctx} {α : Type} {R : Rl α} {as : List Str} {kx vx iter : Expr} {scope : Scope} {pos np : Pos} {n : Str} {j : Nat}
theorem EV.dcLists (hi : IV X b Γ (.Name n np) iter as.length (IL rS as)) (nd : X.N.Nodup) (ok : blkC X.N X.env.scope scope [(n, j)] = true) (hm : as.length ≤ 50000) (hnd : as.Nodup)
    (hk : ∀ (b' : Bs) (i : Nat) (a : Str) s H0 C cl fp, b'.B = b.B → as[i]? = some a → EV (X.blk s H0 scope (compEnvC scope cl C X.env) fp) b' (Sb Γ j (mk rS a)) kx (im rS a))
    (hv : ∀ (b' : Bs) (i : Nat) (a : Str) s H0 C cl fp, b'.B = b.B → as[i]? = some a → EV (X.blk s H0 scope (compEnvC scope cl C X.env) fp) b' (Sb Γ j (mk rS a)) vx (ow R []))
    (hg : ∀ (s : Shared) (H0 : Hp) (C : Addr) (cl : List (Str × Addr)) (fp : List Addr), PG (X.blk s H0 scope (compEnvC scope cl C X.env) fp) (.Name n np) (gName j)) (hc : X.calm = true := by rfl) (hf : ∀ x, foldedSetIterable iter X.env x = pure x := by intro _; rfl) :
    EV X b Γ (.DictComp kx vx [⟨.Name n np, iter, [], 0⟩] scope pos) (owDL R (as.map fun a => (a, []))) := by
  obtain ⟨wi, p1, k1⟩ := hi
  refine EV.of (pe_dc (own := [(n, j)]) (g := gName j) (tt := tYes) (tk := wEb X scope kx) (tv := wEb X scope vx) hc nd p1 (blkOk_by ok) hg (fun _ _ _ _ _ => pts_nil) (fun _ _ _ _ _ => pe_wb) (fun _ _ _ _ _ => pe_wb) hf) fun σ F H l g d Q q => ?_
  refine k1 σ F H l g d _ fun J F1 H1 w ⟨G, Y, W, hG, hY⟩ D hD => ?_
  have d1 := d.grow g.t w
  have g1 := g.grow w
  obtain ⟨l2, g2, nd2, sub2⟩ := SgL.put (o' := none) (w := none) (l' := []) trivial List.nodup_nil j g1 d1.nd (fun _ h => nomatch h)
  have sub2 : ∀ a ∈ l2, a ∈ l := fun a ha => (sub2 a ha).elim id fun z => nomatch z
  have d2 : Gd ⟨F1, b.B⟩ F1 H1 l2 := d1.self.of_l nd2 fun a ha => ⟨d1.of a (sub2 a ha), d1.ob a (sub2 a ha)⟩
  have nB : b.B D = none := ex_none d1.eb hD
  have nF : F1 D = none := ex_none d1.e hD
  have nl : D ∉ l2 := fun z => g1.t D (sub2 D z) hD
  have c0 : Cv b F1 H1 (Γ.set j none) (σ.set j none) D l2 F1 (upd H1 D (.dK [])) := Cv.upd ⟨g2, d2, Gw.refl d1.e, nl, nB, nF, hD⟩
  let Pv : Nat → Hp → Prop := fun i H' => ∃ F' ws qs, Cv b F1 H1 (Γ.set j none) (σ.set j none) D l2 F' H' ∧ H' D = some (.dK ws) ∧ DL R F' H' ws ((as.take i).map fun a => (a, [])) qs ∧ (D :: qs).Nodup ∧ (∀ r ∈ qs, H1 r = none ∧ F' r = none) ∧ i ≤ as.length
  refine ⟨fun i m H => m = as.length - i ∧ i ≤ as.length ∧ Pv i H, ⟨as.length, by simp, Nat.zero_le _, F1, [], [], c0, upd_same, .nil, by simp, (fun _ z => nomatch z), Nat.zero_le _⟩, ?_⟩
  rintro i m H' ⟨rfl, hi, F', ws, qs, c, ha, hdl, hqn, hqf, hi'⟩
  have hGG := hG F' H' c.d.ef c.d.e
  by_cases hlt : i < as.length
  · refine .inr ⟨W.goes i H' hlt hGG, Pv (i + 1), fun H'' p' => ⟨as.length - (i + 1), by omega, rfl, hlt, p'⟩, fun v H'' y => ?_⟩
    have y := W.yields i H' v H'' hlt hGG y
    obtain ⟨F'', y0, w', ⟨a, ha0, rfl⟩, r2⟩ := hY i F' H' v H'' hlt c.d.ef c.d.e y
    have hDn : H' D ≠ none := by rw [ha]; exact fun z => nomatch z
    have c2 := c.grow hDn w'
    have ha2 : H'' D = some (.dK ws) := w'.h D _ ha
    have hD2 : H'' D ≠ none := by rw [ha2]; exact fun z => nomatch z
    refine ⟨(by show ((σ.set j none).set j (some v)).set j none = σ.set j none; rw [List.set_set, List.set_set]), ?_⟩
    simp only [tYes, ↓reduceIte]
    obtain ⟨l3, g3, nd3, sub3⟩ := SgL.put (o' := some (im rS a)) (w := some v) (l' := []) ⟨v, rfl, rfl, r2⟩ List.nodup_nil j c2.g c2.d.nd (fun _ h => nomatch h)
    have sub3 : ∀ a ∈ l3, a ∈ l2 := fun a ha => (sub3 a ha).elim id fun z => nomatch z
    have d3 : Gd ⟨F1, b.B⟩ F'' H'' l3 := c2.d.of_l nd3 fun a ha => ⟨c2.d.of a (sub3 a ha), c2.d.ob a (sub3 a ha)⟩
    intro s H0 C cl fp
    refine hk ⟨F1, b.B⟩ i a s H0 C cl fp rfl ha0 _ F'' H'' l3 g3 d3 _ fun u F3 H3 l4 w3 p3 _ => ?_
    intro s H0 C cl fp
    refine hv ⟨F1, b.B⟩ i a s H0 C cl fp rfl ha0 _ F3 H3 l3 (g3.grow w3) (d3.grow g3.t w3) _ fun u2 F4 H4 l5 w4 ⟨r, xs, hu2, hl5, hr, hxs⟩ fr => ?_
    rw [hl5] at fr
    obtain ⟨fr1, fr2⟩ := fr r (List.mem_singleton.mpr rfl)
    have c3 := c2.grow hD2 w3
    have hD3 : H3 D ≠ none := by rw [w3.h D _ ha2]; exact fun z => nomatch z
    have c4 := c3.grow hD3 w4
    have a4 := w4.h D _ (w3.h D _ ha2)
    have wA := (w'.trans w3).trans w4
    have rD : r ≠ D := fun z => hD3 (z ▸ fr1)
    have e : as.take (i + 1) = as.take i ++ [a] := by rw [List.take_add_one, ha0]; rfl
    have old : ∀ c ∈ qs, H' c ≠ none := hdl.t
    have rq : r ∉ qs := fun z => by
      have := ex_some (w'.trans w3).h (old r z)
      exact this fr1
    have hnk : (Sum.inr a : Key) ∉ ws.map (·.1) := by
      rw [hdl.keys]
      intro z
      obtain ⟨p, hp, hpe⟩ := List.mem_map.mp z
      obtain ⟨a', ha', rfl⟩ := List.mem_map.mp hp
      have hpe : a' = a := Sum.inr.inj hpe
      subst hpe
      have hnd2 : (as.take (i + 1)).Nodup := (List.take_sublist (i + 1) as).nodup hnd
      rw [e] at hnd2
      exact (List.nodup_append.mp hnd2).2.2 a' ha' a' (List.mem_singleton.mpr rfl) rfl
    have hwl : ws.length = i := by rw [hdl.len, List.length_map, List.length_take]; omega
    refine ⟨ws, Sum.inr a, p3.2, a4, sz_lt (by omega), F4, putK ws (Sum.inr a) u2, qs ++ [r], c4.upd, upd_same, ?_, ?_, ?_, hlt⟩
    · rw [put_fresh hnk, e, List.map_append, hu2]
      have hH : ∀ c ∈ qs, (upd H4 D (.dK (ws ++ [(Sum.inr a, V.ref r)]))) c = H' c := fun c hc => by
        have hcD : c ≠ D := fun z => (List.nodup_cons.mp hqn).1 (z ▸ hc)
        rw [upd_ne hcD]
        exact ex_eq wA.h (old c hc)
      exact (hdl.m wA.f hH).one (by rw [upd_ne rD]; exact hr) hxs
    · obtain ⟨n1, n2⟩ := List.nodup_cons.mp hqn
      refine List.nodup_cons.mpr ⟨fun z => ?_, List.nodup_append.mpr ⟨n2, by simp, fun c hc c' hc' e => ?_⟩⟩
      · rcases List.mem_append.mp z with z | z
        · exact n1 z
        · exact rD (List.mem_singleton.mp z).symm
      · rw [List.mem_singleton.mp hc'] at e
        exact rq (e ▸ hc)
    · intro x hx
      rcases List.mem_append.mp hx with z | z
      · exact ⟨(hqf x z).1, wA.k x (hqf x z).2 (old x z)⟩
      · rw [List.mem_singleton.mp z]
        refine ⟨?_, fr2⟩
        exact ex_none ((c.w.trans w').trans w3).h fr1
  · have e : i = as.length := by omega
    subst e
    rw [List.take_length] at hdl
    refine .inl ⟨W.stops H' hGG, q (.ref D) F' H' (D :: qs) (w.trans c.w) ⟨D, ws, qs, rfl, rfl, hqn, ha, hdl⟩ fun a h => ?_⟩
    rcases List.mem_cons.mp h with z | z
    · rw [z]; exact ⟨ex_none w.h hD, c.nF⟩
    · exact ⟨ex_none w.h (hqf a z).1, (hqf a z).2⟩
end
end Lg

namespace Lg
open PySem L2 Evl PyProof.Rows
/-! ### an instance in the making that holds such a dict -/
inductive FlsO (F : Hp) (q : Addr) : List (Str × V) → List (Str × Option Im) → Prop
  | nil : FlsO F q [] []
  | cons {f : Str} {v : V} {x : Im} {ws : List (Str × V)} {xs : List (Str × Option Im)} : x.R.r F v x.a → FlsO F q ws xs → FlsO F q ((f, v) :: ws) ((f, some x) :: xs)
  | hole {f : Str} {ws : List (Str × V)} {xs : List (Str × Option Im)} : FlsO F q ws xs → FlsO F q ((f, .ref q) :: ws) ((f, none) :: xs)
def putO (f : Str) (o : Option Im) : List (Str × Option Im) → List (Str × Option Im)
  | [] => [(f, o)]
  | (g, y) :: r => if g = f then (f, o) :: r else (g, y) :: putO f o r
def allO (xs : List (Str × Im)) : List (Str × Option Im) := xs.map fun p => (p.1, some p.2)
section
variable {F F' : Hp} {q : Addr} {ws : List (Str × V)} {xs : List (Str × Option Im)}
theorem FlsO.m (e : Ex F F') (h : FlsO F q ws xs) : FlsO F' q ws xs := by
  induction h with
  | nil => exact .nil
  | cons h _ ih => exact .cons (Rl.m _ e h) ih
  | hole _ ih => exact .hole ih
theorem FlsO.of {ws : List (Str × V)} {xs : List (Str × Im)} (h : Fls F ws xs) : FlsO F q ws (allO xs) := by
  induction h with
  | nil => exact .nil
  | cons h _ ih => exact .cons h ih
theorem FlsO.len (h : FlsO F q ws xs) : ws.length = xs.length := by
  induction h with
  | nil => rfl
  | cons _ _ ih => simp [ih]
  | hole _ ih => simp [ih]
theorem FlsO.putD {f : Str} {v : V} {x : Im} (hx : x.R.r F v x.a) (h : FlsO F q ws xs) : FlsO F q (putF f v ws) (putO f (some x) xs) := by
  induction h with
  | nil => exact .cons hx .nil
  | @cons g u y ws xs h1 t ih =>
    unfold putF putO
    by_cases z : g = f
    · rw [if_pos z, if_pos z]; first | exact .cons hx t | (subst z; exact .cons hx t)
    · rw [if_neg z, if_neg z]; exact .cons h1 ih
  | @hole g ws xs t ih =>
    unfold putF putO
    by_cases z : g = f
    · rw [if_pos z, if_pos z]; first | exact .cons hx t | (subst z; exact .cons hx t)
    · rw [if_neg z, if_neg z]; exact .hole ih
theorem FlsO.putH {f : Str} (h : FlsO F q ws xs) : FlsO F q (putF f (.ref q) ws) (putO f none xs) := by
  induction h with
  | nil => exact .hole .nil
  | @cons g u y ws xs h1 t ih =>
    unfold putF putO
    by_cases z : g = f
    · rw [if_pos z, if_pos z]; first | exact .hole t | (subst z; exact .hole t)
    · rw [if_neg z, if_neg z]; exact .cons h1 ih
  | @hole g ws xs t ih =>
    unfold putF putO
    by_cases z : g = f
    · rw [if_pos z, if_pos z]; first | exact .hole t | (subst z; exact .hole t)
    · rw [if_neg z, if_neg z]; exact .hole ih
def isF (F : Hp) (q : Addr) (v : V) : Option Im → Prop
  | none => v = .ref q
  | some x => x.R.r F v x.a
theorem FlsO.look {f : Str} {o : Option Im} (h : FlsO F q ws xs) (hl : xs.lookup f = some o) : ∃ v, ws.lookup f = some v ∧ isF F q v o := by
  induction h with
  | nil => cases hl
  | @cons g u y ws xs h1 t ih =>
    rw [List.lookup_cons] at hl ⊢
    cases z : f == g with
    | true => rw [z] at hl; cases hl; exact ⟨_, rfl, h1⟩
    | false => rw [z] at hl; simpa using ih hl
  | @hole g ws xs t ih =>
    rw [List.lookup_cons] at hl ⊢
    cases z : f == g with
    | true => rw [z] at hl; cases hl; exact ⟨_, rfl, rfl⟩
    | false => rw [z] at hl; simpa using ih hl
/-- the hole filled -/
def fill (x : Im) (xs : List (Str × Option Im)) : List (Str × Im) := xs.map fun p => (p.1, p.2.getD x)
theorem FlsO.fill {x : Im} (hx : x.R.r F (.ref q) x.a) (h : FlsO F q ws xs) : Fls F ws (Lg.fill x xs) := by
  induction h with
  | nil => exact .nil
  | cons h1 _ ih => exact .cons h1 ih
  | hole _ ih => exact .cons hx ih
end
def obD {α : Type} (C a : Addr) (fs : List (Str × Option Im)) (R : Rl α) (kvs : List (Str × List α)) : Sl where
  P := fun F H v l => ∃ dx ws q dws qs, v = .ref a ∧ l = a :: q :: qs ∧ l.Nodup ∧ H a = some (.ins C dx ws) ∧ FlsO F q ws fs ∧ H q = some (.dK dws) ∧ DL R F H dws kvs qs
  m := fun e k ⟨dx, ws, q, dws, qs, h1, h2, h3, h4, h5, h6, h7⟩ => ⟨dx, ws, q, dws, qs, h1, h2, h3, by rw [k a (by rw [h2]; exact List.mem_cons_self)]; exact h4, h5.m e, by rw [k q (by rw [h2]; exact List.mem_cons_of_mem _ List.mem_cons_self)]; exact h6, h7.m e fun r hr => k r (by rw [h2]; exact List.mem_cons_of_mem _ (List.mem_cons_of_mem _ hr))⟩
  t := fun ⟨dx, ws, q, dws, qs, h1, h2, h3, h4, h5, h6, h7⟩ c hc => by
    rw [h2] at hc
    rcases List.mem_cons.mp hc with z | hc
    · rw [z, h4]; exact fun z => nomatch z
    rcases List.mem_cons.mp hc with z | hc
    · rw [z, h6]; exact fun z => nomatch z
    exact h7.t c hc
  d := fun ⟨dx, ws, q, dws, qs, h1, h2, h3, _⟩ => h3
/-! what a slot owns, taken out and put back -/
theorem SgL.out {F H : Hp} {Γ : Ctx} {σ : L2.St} {l : List Addr} {i : Nat} {s : Sl} (g : SgL F H Γ σ l) (nd : l.Nodup) (hΓ : Γ[i]? = some (some s)) : ∃ v l1 l2, σ[i]? = some (some v) ∧ s.P F H v l1 ∧ (∀ a ∈ l1, a ∈ l) ∧ SgL F H (Γ.set i (some (vx v))) σ l2 ∧ l2.Nodup ∧ ∀ a ∈ l2, a ∈ l ∧ a ∉ l1 := by
  obtain ⟨v, l1, h1, h2, h3, h4⟩ := g.frz nd hΓ
  obtain ⟨l2, k1, k2, k3⟩ := h4 F (vx v) (Ex.refl F) ⟨rfl, rfl⟩
  exact ⟨v, l1, l2, h1, h2, h3, k1, k2, k3⟩
theorem Sg.back {b : Bs} {F H F' H' : Hp} {Γ : Ctx} {σ : L2.St} {l2 l' : List Addr} {i : Nat} {s' : Sl} {v : V} (g2 : SgL F H (Γ.set i (some (vx v))) σ l2) (n2 : l2.Nodup) (hv : σ[i]? = some (some v)) (d : Gd b F' H' (l2)) (e : Ex F F') (k : ∀ a ∈ l2, H' a = H a) (p : s'.P F' H' v l') (dj : ∀ a ∈ l', a ∉ l2) (of : ∀ a ∈ l', F' a = none) (ob : ∀ a ∈ l', b.B a = none) : Sg b (Γ.set i (some s')) σ F' H' := by
  obtain ⟨l3, k1, k2, k3⟩ := SgL.put (o' := some s') (w := some v) (l' := l') ⟨v, rfl, p⟩ (s'.d p) i (g2.m e k) n2 dj
  rw [List.set_set, set_same hv] at k1
  refine ⟨l3, k1, d.of_l k2 fun a ha => ?_⟩
  rcases k3 a ha with z | z
  · exact ⟨d.of a z, d.ob a z⟩
  · exact ⟨of a z, ob a z⟩
theorem DL.get {α : Type} {R : Rl α} {F H : Hp} {ws : List (Key × V)} {kvs : List (Str × List α)} {qs : List Addr} (h : DL R F H ws kvs qs) {n : Str} (hn : n ∈ kvs.map (·.1)) (nk : (kvs.map (·.1)).Nodup) : qs.Nodup →
    ∃ r xs as, valV ws (Sum.inr n) = some (.ref r) ∧ r ∈ qs ∧ H r = some (.lst xs) ∧ All2 (R.r F) xs as ∧ (n, as) ∈ kvs ∧ ∀ y u, R.r F u y → DL R F (upd H r (.lst (xs ++ [u]))) ws (kvs.map fun p => if p.1 = n then (p.1, p.2 ++ [y]) else p) qs := by
  induction h with
  | nil => cases hn
  | @cons n' r xs as ws kvs qs h1 h2 t ih =>
    intro nq
    obtain ⟨q1, q2⟩ := List.nodup_cons.mp nq
    obtain ⟨k1, k2⟩ := List.nodup_cons.mp (show (n' :: kvs.map (·.1)).Nodup from nk)
    by_cases z : n' = n
    · subst z
      refine ⟨r, xs, as, valV_pos rfl, List.mem_cons_self, h1, h2, List.mem_cons_self, fun y u hu => ?_⟩
      rw [List.map_cons, if_pos rfl]
      refine .cons upd_same (h2.app (.cons hu .nil)) ?_
      have e : (kvs.map fun p => if p.1 = n' then (p.1, p.2 ++ [y]) else p) = kvs := by
        conv => rhs; rw [← List.map_id kvs]
        refine List.map_congr_left fun p hp => ?_
        rw [if_neg fun z => k1 (List.mem_map.mpr ⟨p, hp, z⟩)]; rfl
      rw [e]
      exact t.m (Ex.refl F) fun c hc => upd_ne fun z => q1 (z ▸ hc)
    · have hn' : n ∈ kvs.map (·.1) := (List.mem_cons.mp (show n ∈ n' :: kvs.map (·.1) from hn)).elim (fun e => absurd e.symm z) id
      obtain ⟨r', xs', as', e1, e2, e3, e4, e5, e6⟩ := ih hn' k2 q2
      refine ⟨r', xs', as', ?_, List.mem_cons_of_mem _ e2, e3, e4, List.mem_cons_of_mem _ e5, fun y u hu => ?_⟩
      · rw [valV_neg fun q => z (Sum.inr.inj q)]; exact e1
      · rw [List.map_cons, if_neg z]
        exact .cons (by rw [upd_ne fun (q : r = r') => q1 (by rw [q]; exact e2)]; exact h1) h2 (e6 y u hu)
end Lg

namespace Lg
open PySem L2 Evl PyProof.Rows
section
variable {X : Cx} {b : Bs} {D : EndC} {Γ : Ctx} {α β : Type} {R : Rl α} {S : Rl β} {y : β} {C a : Addr} {fl : List (Str × Im)} {fo : List (Str × Option Im)} {kvs : List (Str × List α)} {f n : Str} {e : Expr} {pos np tp sp apos cpos : Pos} {rest sts : List Stmt} {i : Nat}
/-- self.f = {..: [] ..} -/
theorem HT.fldDL (hc : Cls X.K C) (i : Nat) (hΓ : Γ[i]? = some (some (ob C a fl))) (he : EV X b Γ e (owDL R kvs)) (hn : NoAttr X.K C f) (hz : fl.length < 1000) (k : HT X b D (Γ.set i (some (obD C a (putO f none (allO fl)) R kvs))) rest) (hN : X.N[i]? = some n := by rfl) (hv : Vis X.env.scope n := by first | exact Or.inl rfl | exact Or.inr (Or.inl rfl) | exact Or.inr (Or.inr rfl))
    (hd : (n == ("__debug__" : Str)) = false := by decide) (hcd : (n == ("__classdict__" : Str)) = false := by decide) (hs : swapsWith e (some (.Attribute (.Name n np) f tp)) pos.line X.env = pure false := by rfl) : HT X b D Γ (.Assign [.Attribute (.Name n np) f tp] e pos :: rest) :=
  HT.step (ps_fld (pe_var hN hv hd hcd) pe_w hs) fun σ F H ⟨l, g, d⟩ => he σ F H l g d _ fun v F1 H1 l1 w1 ⟨q, dws, qs, hv1, hl1, nq, hq, hdl⟩ fr => by
    subst hv1 hl1
    have g1 := g.grow w1
    have d1 := d.grow g.t w1
    obtain ⟨u, l0, l2, h1, ⟨dx, ws, rfl, rfl, h4, h5⟩, h6, g2, n2, s2⟩ := g1.out d1.nd hΓ
    have ha := h6 a (List.mem_singleton.mpr rfl)
    have hal : H a ≠ none := g.t a ha
    have an : ∀ c ∈ q :: qs, c ≠ a := fun c hc z => hal (z ▸ (fr c hc).1)
    refine ⟨_, h1, a, C, dx, ws, rfl, h4, hc, hn, by rw [h5.len]; exact hz, ?_⟩
    refine k σ F1 _ (Sg.back (l' := a :: q :: qs) g2 n2 h1 ⟨d1.ef, Ex.mut d1.eb (d1.ob a ha), Ex.mut d1.e (d1.of a ha), d1.k, n2, fun c hc => d1.of c (s2 c hc).1, fun c hc => d1.ob c (s2 c hc).1⟩ (Ex.refl _) (fun c hc => upd_ne fun z => (s2 c hc).2 (List.mem_singleton.mpr z))
      ⟨dx, _, q, dws, qs, rfl, rfl, List.nodup_cons.mpr ⟨fun z => an a z rfl, nq⟩, upd_same, (FlsO.of h5).putH, by rw [upd_ne (an q List.mem_cons_self)]; exact hq, hdl.m (Ex.refl _) fun c hc => upd_ne (an c (List.mem_cons_of_mem _ hc))⟩ (fun c hc => ?_) (fun c hc => ?_) (fun c hc => ?_))
    · rcases List.mem_cons.mp hc with z | z
      · rw [z]; exact fun q => (s2 a q).2 (List.mem_singleton.mpr rfl)
      · intro q
        exact g.t c (s2 c q).1 (fr c z).1
    · rcases List.mem_cons.mp hc with z | z
      · rw [z]; exact d1.of a ha
      · exact (fr c z).2
    · rcases List.mem_cons.mp hc with z | z
      · rw [z]; exact d1.ob a ha
      · exact ex_none d.eb (fr c z).1
/-- a data field of it, read -/
theorem EV.fldO {np : Pos} (hc : Cls X.K C) (i : Nat) (hΓ : Γ[i]? = some (some (obD C a fo R kvs))) (hl : fo.lookup f = some (some (mk S y))) (hn : NoAttr X.K C f) (hN : X.N[i]? = some n := by rfl) (hv : Vis X.env.scope n := by first | exact Or.inl rfl | exact Or.inr (Or.inl rfl) | exact Or.inr (Or.inr rfl))
    (hd : (n == ("__debug__" : Str)) = false := by decide) (hcd : (n == ("__classdict__" : Str)) = false := by decide) (hb : attributeBase (.Name n np) f X.env (eval (.Name n np) X.env) = eval (.Name n np) X.env := by rfl) : EV X b Γ (.Attribute (.Name n np) f pos) (im S y) :=
  EV.of (pe_fld (pe_var hN hv hd hcd) hb) (EvS.mki fun σ F H l g d Q q => by
    obtain ⟨v, l1, h1, ⟨dx, ws, r, dws, qs, rfl, h2, h3, h4, h5, h6, h7⟩, _⟩ := g.get hΓ
    obtain ⟨u, k1, k2⟩ := h5.look hl
    exact ⟨_, h1, a, C, dx, ws, u, rfl, h4, hc, hn, k1, q u F H (Gw.refl d.e) k2⟩)
theorem EV.fldOb {np : Pos} (hc : Cls X.K C) (i : Nat) (hΓ : Γ[i]? = some (some (ob C a fl))) (hl : fl.lookup f = some (mk S y)) (hn : NoAttr X.K C f) (hN : X.N[i]? = some n := by rfl) (hv : Vis X.env.scope n := by first | exact Or.inl rfl | exact Or.inr (Or.inl rfl) | exact Or.inr (Or.inr rfl))
    (hd : (n == ("__debug__" : Str)) = false := by decide) (hcd : (n == ("__classdict__" : Str)) = false := by decide) (hb : attributeBase (.Name n np) f X.env (eval (.Name n np) X.env) = eval (.Name n np) X.env := by rfl) : EV X b Γ (.Attribute (.Name n np) f pos) (im S y) :=
  EV.of (pe_fld (pe_var hN hv hd hcd) hb) (EvS.mki fun σ F H l g d Q q => by
    obtain ⟨v, l1, h1, ⟨dx, ws, rfl, h2, h3, h4⟩, _⟩ := g.get hΓ
    have k := h4.look (f := f)
    rw [hl] at k
    obtain ⟨u, k1, k2⟩ := k
    exact ⟨_, h1, a, C, dx, ws, u, rfl, h3, hc, hn, k1, q u F H (Gw.refl d.e) k2⟩)
/-- self.f = e, data -/
theorem HT.fldO (hc : Cls X.K C) (i : Nat) (hΓ : Γ[i]? = some (some (obD C a fo R kvs))) (he : EV X b Γ e (im S y)) (hn : NoAttr X.K C f) (hz : fo.length < 1000) (k : HT X b D (Γ.set i (some (obD C a (putO f (some (mk S y)) fo) R kvs))) rest) (hN : X.N[i]? = some n := by rfl) (hv : Vis X.env.scope n := by first | exact Or.inl rfl | exact Or.inr (Or.inl rfl) | exact Or.inr (Or.inr rfl))
    (hd : (n == ("__debug__" : Str)) = false := by decide) (hcd : (n == ("__classdict__" : Str)) = false := by decide) (hs : swapsWith e (some (.Attribute (.Name n np) f tp)) pos.line X.env = pure false := by rfl) : HT X b D Γ (.Assign [.Attribute (.Name n np) f tp] e pos :: rest) :=
  HT.step (ps_fld (pe_var hN hv hd hcd) pe_w hs) fun σ F H ⟨l, g, d⟩ => he σ F H l g d _ fun v F1 H1 l1 w1 p1 _ => by
    have g1 := g.grow w1
    have d1 := d.grow g.t w1
    obtain ⟨u, l2, h1, ⟨dx, ws, q, dws, qs, rfl, rfl, h3, h4, h5, h6, h7⟩, g6, g7⟩ := g1.mod d1.nd hΓ
    have ha := g6 a List.mem_cons_self
    have an : ∀ c ∈ q :: qs, c ≠ a := fun c hc z => (List.nodup_cons.mp h3).1 (z ▸ hc)
    refine ⟨_, h1, a, C, dx, ws, rfl, h4, hc, hn, by rw [h5.len]; exact hz, k σ F1 _ ⟨l, g7 _ _ (fun c hc => upd_ne fun z => hc (by rw [z]; exact List.mem_cons_self)) ⟨dx, _, q, dws, qs, rfl, rfl, h3, upd_same, h5.putD (x := mk S y) p1.2, by rw [upd_ne (an q List.mem_cons_self)]; exact h6, h7.m (Ex.refl _) fun c hc => upd_ne (an c (List.mem_cons_of_mem _ hc))⟩, d1.ef, Ex.mut d1.eb (d1.ob a ha), Ex.mut d1.e (d1.of a ha), d1.k, d1.nd, d1.of, d1.ob⟩⟩
/-- self.f[key].append(e) -/
theorem HT.appDL {fp kp : Pos} {kx : Expr} {p : Str} {γ : Type} {T : Rl γ} {kd : γ} {z : α} (hc : Cls X.K C) (hu : X.A.units + 1 < cLine) (i : Nat) (hΓ : Γ[i]? = some (some (obD C a fo R kvs))) (hl : fo.lookup f = some none) (hn : NoAttr X.K C f) (hk : EV X b Γ kx (im T kd)) (hx : ∀ F v, T.r F v kd → v = kV (Sum.inr p)) (hp : p ∈ kvs.map (·.1)) (hnk : (kvs.map (·.1)).Nodup) (hsz : ∀ q ∈ kvs, q.2.length < 100000) (he : EV X b Γ e (im R z))
    (k : HT X b D (Γ.set i (some (obD C a fo R (kvs.map fun q => if q.1 = p then (q.1, q.2 ++ [z]) else q)))) rest) (hN : X.N[i]? = some n := by rfl) (hv : Vis X.env.scope n := by first | exact Or.inl rfl | exact Or.inr (Or.inl rfl) | exact Or.inr (Or.inr rfl))
    (hd : (n == ("__debug__" : Str)) = false := by decide) (hcd : (n == ("__classdict__" : Str)) = false := by decide) (hse : starEach [e] X.env = (false, eval e X.env) :: starEach [] X.env := by rfl)
    (hb : attributeBase (.Name n np) f X.env (eval (.Name n np) X.env) = eval (.Name n np) X.env := by rfl) (hns : NoSl kx := by exact (fun _ _ => rfl))
    (hbm : ∀ {t : TE} {ta : TA}, PE X (.Subscript (.Attribute (.Name n np) f fp) kx kp) t → PA X [e] ta → PE X (.Call (.Attribute (.Subscript (.Attribute (.Name n np) f fp) kx kp) "append" apos) [e] [] cpos) (tBM X.K "list" rAppend t ta) := by exact fun h1 h2 => pe_bm PySem.F.plainAttrs_list PySem.F.slot_list_append PySem.F.type_list_append mt_append h1 h2)
    (hs : swapsWith (.Call (.Attribute (.Subscript (.Attribute (.Name n np) f fp) kx kp) "append" apos) [e] [] cpos) none pos.line X.env = pure false := by rfl) :
    HT X b D Γ (.Expr (.Call (.Attribute (.Subscript (.Attribute (.Name n np) f fp) kx kp) "append" apos) [e] [] cpos) pos :: rest) :=
  HT.step (ps_expr (hbm (pe_dget hu (pe_fld (pe_var hN hv hd hcd) hb) pe_w hns) (pa_cons pe_w pa_nil hse)) hs) fun σ F H ⟨l, g, d⟩ => by
    obtain ⟨v0, l0, h1, ⟨dx, ws, q, dws, qs, rfl, rfl, h3, h4, h5, h6, h7⟩, g6⟩ := g.get hΓ
    obtain ⟨u0, k1, k2⟩ := h5.look hl
    have k2 : u0 = V.ref q := k2
    refine ⟨_, h1, a, C, dx, ws, u0, rfl, h4, hc, hn, k1, hk σ F H l g d _ fun v F1 H1 l1 w1 p1 _ => ?_⟩
    have g1 := g.grow w1
    have d1 := d.grow g.t w1
    have nqs : qs.Nodup := (List.nodup_cons.mp (List.nodup_cons.mp h3).2).2
    have keep : ∀ {c : Addr} {o : HO}, H c = some o → H1 c = some o := fun {c o} ho => w1.h c o ho
    obtain ⟨r, xs, as, e1, e2, e3, e4, e5, e6⟩ := h7.get hp hnk nqs
    refine ⟨q, .ref r, k2, .inl ⟨dws, Sum.inr p, .inl (keep h6), hx F1 v p1.2, e1.symm⟩, Or.inl ⟨rfl, xs, SqL.of (keep e3)⟩, he σ F1 H1 l g1 d1 _ fun u F2 H2 l2 w2 p2 _ => ?_⟩
    have w12 := w1.trans w2
    have g2 := g1.grow w2
    have d2 := d1.grow g1.t w2
    obtain ⟨v2, l3, j1, ⟨dx', ws', q', dws', qs', jv, rfl, j3, j4, j5, j6, j7⟩, j8, j9⟩ := g2.mod d2.nd hΓ
    rw [h1] at j1
    cases j1
    have x1 : some (HO.ins C dx' ws') = some (HO.ins C dx ws) := by rw [← j4]; exact w12.h a _ h4
    cases x1
    obtain ⟨u1, m1, m2⟩ := j5.look hl
    have m2 : u1 = V.ref q' := m2
    rw [k1] at m1
    cases m1
    rw [k2] at m2
    cases m2
    have x2 : some (HO.dK dws') = some (HO.dK dws) := by rw [← j6]; exact w12.h q _ h6
    cases x2
    have nqs' : qs'.Nodup := (List.nodup_cons.mp (List.nodup_cons.mp j3).2).2
    obtain ⟨r', xs', as', b1, b2, b3, b4, b5, b6⟩ := j7.get hp hnk nqs'
    rw [e1] at b1
    cases b1
    have hrl : r ∈ a :: q :: qs' := List.mem_cons_of_mem _ (List.mem_cons_of_mem _ b2)
    have ra : a ≠ r := fun z => (List.nodup_cons.mp j3).1 (by rw [z]; exact List.mem_cons_of_mem _ b2)
    have rq : q ≠ r := fun z => (List.nodup_cons.mp (List.nodup_cons.mp j3).2).1 (by rw [z]; exact b2)
    refine ⟨r, xs', u, rfl, rfl, b3, sz_lt (by rw [b4.len]; exact hsz _ b5), ?_⟩
    have hr := j8 r hrl
    exact k σ F2 _ ⟨l, j9 _ _ (fun c hc => upd_ne fun z => hc (by rw [z]; exact hrl)) ⟨dx, ws, q, dws, qs', rfl, rfl, j3, by rw [upd_ne ra]; exact j4, j5, by rw [upd_ne rq]; exact j6, b6 z u p2.2⟩, d2.ef, Ex.mut d2.eb (d2.ob r hr), Ex.mut d2.e (d2.of r hr), d2.k, d2.nd, d2.of, d2.ob⟩
end
end Lg

namespace Lg
open PySem L2 Evl PyProof.Rows
section
variable {X : Cx} {pins : List (Addr × Obj)} {σ : L2.St} {s : Shared} {α : Type} {R : Rl α}
theorem lockAll {ws : List (Key × V)} {kvs : List (Str × List α)} {qs : List Addr} : ∀ {F H : Hp}, DL R F H ws kvs qs → qs.Nodup → (∀ r ∈ qs, F r = none) → Inv X pins σ H s →
    ∃ F' H', Inv X pins σ H' s ∧ Ex F F' ∧ (∀ c, c ∉ qs → F' c = F c ∧ H' c = H c) ∧ (∀ c ∈ qs, ∀ u, F' c = some u → H' c = some u) ∧ KvR ((rLK R).r F') ws (kvS kvs) := by
  induction qs generalizing ws kvs with
  | nil =>
    intro F H h _ _ I
    cases h
    exact ⟨F, H, I, Ex.refl F, fun c _ => ⟨rfl, rfl⟩, fun c hc => (nomatch hc), .nil⟩
  | cons r qs ih =>
    intro F H h nq hf I
    cases h with
    | @cons n _ xs as ws kvs _ h1 h2 t =>
      obtain ⟨q1, q2⟩ := List.nodup_cons.mp nq
      obtain ⟨od, I1⟩ := I.lock h1 trivial
      have fr := hf r List.mem_cons_self
      have e1 : Ex F (upd F r (.frz od (.lst xs))) := Ex.new fr
      obtain ⟨F', H', I2, e2, k1, k2, k3⟩ := ih (t.m e1 (H' := upd H r (.frz od (.lst xs))) fun c hc => upd_ne fun z => q1 (z ▸ hc)) q2 (fun c hc => by rw [upd_ne fun (z : c = r) => q1 (by rw [← z]; exact hc)]; exact hf c (List.mem_cons_of_mem _ hc)) I1
      have er : F' r = some (.frz od (.lst xs)) := by rw [(k1 r q1).1, upd_same]
      refine ⟨F', H', I2, e1.trans e2, fun c hc => ?_, fun c hc u hu => ?_, .cons (v := .ref r) (y := as) ⟨r, od, xs, rfl, er, h2.imp fun _ _ => R.m (e1.trans e2)⟩ k3⟩
      · have c1 : c ≠ r := fun z => hc (z ▸ List.mem_cons_self)
        have c2 := k1 c fun z => hc (List.mem_cons_of_mem _ z)
        rw [c2.1, c2.2, upd_ne c1, upd_ne c1]
        exact ⟨rfl, rfl⟩
      · rcases List.mem_cons.mp hc with z | z
        · rw [z, er] at hu
          rw [z, (k1 r q1).2, upd_same]; exact hu
        · exact k2 c z u hu
end
section
variable {X : Cx} {b : Bs} {D : EndC} {Γ : Ctx} {α : Type} {R : Rl α} {C a : Addr} {fo : List (Str × Option Im)} {kvs : List (Str × List α)} {sts : List Stmt}
/-- .. made data -/
theorem HT.lkO (i : Nat) (hΓ : Γ[i]? = some (some (obD C a fo R kvs))) (k : HT X b D (Γ.set i (some (ob C a (fill (mk (rDK (rLK R)) (kvS kvs)) fo)))) sts) : HT X b D Γ sts := fun σ F H ⟨l, g, d⟩ pins s I => by
  obtain ⟨v, l1, l2, h1, ⟨dx, ws, q, dws, qs, rfl, rfl, h3, h4, h5, h6, h7⟩, hin, g2, n2, s2⟩ := g.out d.nd hΓ
  obtain ⟨na, h3'⟩ := List.nodup_cons.mp h3
  obtain ⟨nq, nqs⟩ := List.nodup_cons.mp h3'
  have inq : ∀ c ∈ qs, c ∈ a :: q :: qs := fun c hc => List.mem_cons_of_mem _ (List.mem_cons_of_mem _ hc)
  have iq : q ∈ a :: q :: qs := List.mem_cons_of_mem _ List.mem_cons_self
  obtain ⟨F1, H1, I1, e1, k1, k2, k3⟩ := lockAll h7 nqs (fun r hr => d.of r (hin r (inq r hr))) I
  have hq1 : H1 q = some (.dK dws) := by rw [(k1 q nq).2]; exact h6
  obtain ⟨od, I2⟩ := I1.lock hq1 trivial
  have fq : F1 q = none := by rw [(k1 q nq).1]; exact d.of q (hin q iq)
  have e2 : Ex F1 (upd F1 q (.frz od (.dK dws))) := Ex.new fq
  have oth : ∀ c, c ≠ q → c ∉ qs → (upd F1 q (.frz od (.dK dws))) c = F c ∧ (upd H1 q (.frz od (.dK dws))) c = H c := fun c c1 c2 => by
    rw [upd_ne c1, upd_ne c1]; exact k1 c c2
  have aq : a ≠ q := fun z => na (by rw [z]; exact List.mem_cons_self)
  have aqs : a ∉ qs := fun z => na (List.mem_cons_of_mem _ z)
  have l2q : ∀ c ∈ l2, c ≠ q ∧ c ∉ qs := fun c hc => ⟨fun z => (s2 c hc).2 (by rw [z]; exact iq), fun z => (s2 c hc).2 (inq c z)⟩
  have bq : ∀ {c}, b.B c ≠ none → c ≠ q ∧ c ∉ qs := fun {c} hc => ⟨fun z => hc (by rw [z]; exact d.ob q (hin q iq)), fun z => hc (d.ob c (hin c (inq c z)))⟩
  refine k σ (upd F1 q (.frz od (.dK dws))) (upd H1 q (.frz od (.dK dws))) (Sg.back (l' := [a]) g2 n2 h1 ⟨d.ef.trans (e1.trans e2), fun c u hu => ?_, fun c u hu => ?_, fun c c1 c2 => ?_, n2, fun c hc => ?_, fun c hc => d.ob c (s2 c hc).1⟩ (e1.trans e2) (fun c hc => (oth c (l2q c hc).1 (l2q c hc).2).2)
    ⟨dx, ws, rfl, rfl, by rw [(oth a aq aqs).2]; exact h4, (h5.m (e1.trans e2)).fill (x := mk (rDK (rLK R)) (kvS kvs)) ⟨q, od, dws, rfl, upd_same, k3.imp fun _ _ => (rLK R).m e2⟩⟩ (fun c hc => ?_) (fun c hc => ?_) (fun c hc => ?_)) pins s I2
  · have z := bq (c := c) (by rw [hu]; exact fun z => nomatch z)
    rw [(oth c z.1 z.2).2]; exact d.eb c u hu
  · by_cases z : c = q
    · rw [z, upd_same] at hu ⊢; exact hu
    · by_cases z2 : c ∈ qs
      · rw [upd_ne z] at hu ⊢; exact k2 c z2 u hu
      · have o := oth c z z2
        rw [o.1] at hu; rw [o.2]; exact d.e c u hu
  · have z := bq (c := c) c2
    rw [(oth c z.1 z.2).1]; exact d.k c c1 c2
  · rw [(oth c (l2q c hc).1 (l2q c hc).2).1]; exact d.of c (s2 c hc).1
  · rw [List.mem_singleton.mp hc]; exact fun z => (s2 a z).2 List.mem_cons_self
  · rw [List.mem_singleton.mp hc, (oth a aq aqs).1]; exact d.of a (hin a List.mem_cons_self)
  · rw [List.mem_singleton.mp hc]; exact d.ob a (hin a List.mem_cons_self)
/-- self.f = e where e never comes -/
theorem HT.fldNo {f n : Str} {e : Expr} {pos np tp : Pos} {rest : List Stmt} (i : Nat) (he : EV X b Γ e noS) (hN : X.N[i]? = some n := by rfl) (hv : Vis X.env.scope n := by first | exact Or.inl rfl | exact Or.inr (Or.inl rfl) | exact Or.inr (Or.inr rfl))
    (hd : (n == ("__debug__" : Str)) = false := by decide) (hcd : (n == ("__classdict__" : Str)) = false := by decide) (hs : swapsWith e (some (.Attribute (.Name n np) f tp)) pos.line X.env = pure false := by rfl) : HT X b D Γ (.Assign [.Attribute (.Name n np) f tp] e pos :: rest) :=
  HT.step (ps_fld (pe_var hN hv hd hcd) pe_w hs) fun σ F H ⟨l, g, d⟩ => he σ F H l g d _ fun v F1 H1 l1 w1 p1 _ => p1.elim
end
end Lg

namespace Lg
open PySem L2 Evl PyProof.Rows
section
variable {X : Cx} {b : Bs} {D : EndC} {Γ : Ctx} {α : Type} {R : Rl α} {L : Rl (List α)} {f : α → V} {x : α} {as bs : List α} {o e : Expr} {es : List Expr} {pos p p1 p2 apos cpos : Pos} {rest : List Stmt} {c : Bool}
/-- isinstance(e, bool), e a bool -/
theorem EV.isBool (he : EV X b Γ e (im rB c)) (hm : X.mg "isinstance" = none) (hm2 : X.mg "bool" = none) (hg : Gl X "isinstance" := by rfl) (hg2 : Gl X "bool" := by rfl) (hse : starEach [e, .Name "bool" p2] X.env = (false, eval e X.env) :: starEach [.Name "bool" p2] X.env := by rfl) (hpl : (backTo pos (starEach [.Name "bool" p2] X.env)).any (·.1) = false := by rfl) : EV X b Γ (.Call (.Name "isinstance" p1) [e, .Name "bool" p2] [] pos) (im rB true) :=
  EV.of (pe_callB call_isi hg hm (by decide +kernel) (pa_cons pe_w (pa_cons (pe_bltn (v := .ty "bool") (u := .type "bool") hg2 hm2 (by decide +kernel) rfl) pa_nil) hse) (he := hse) (hpl := hpl)) (EvS.mki fun σ F H l g d Q q => he σ F H l g d _ fun v F1 H1 l1 w p _ => by
    have hv : v = V.bl c := p.2
    subst hv
    exact ⟨.bl c, .ty "bool", .type "bool", .type "bool", true, rfl, .ty "bool", .base (.bl c), kit_ty (by decide +kernel), q _ F1 H1 w rfl⟩)
/-- l.index(x), x there -/
theorem EV.index [DecidableEq α] (hF : Flat R f) (hL : Lis L R) {j : Nat} (ho : EV X b Γ o (im L as)) (he : EV X b Γ e (im R x)) (hj : as[j]? = some x) (hno : ∀ m, m < j → as[m]? ≠ some x) (hse : starEach [e] X.env = (false, eval e X.env) :: starEach [] X.env := by rfl)
    (hbm : ∀ {t : TE} {ta : TA}, PE X o t → PA X [e] ta → PE X (.Call (.Attribute o "index" apos) [e] [] cpos) (tBM X.K "list" (rIndex X.K) t ta) := by exact fun h1 h2 => pe_bm PySem.F.plainAttrs_list PySem.F.slot_list_index PySem.F.type_list_index mt_index h1 h2) : EV X b Γ (.Call (.Attribute o "index" apos) [e] [] cpos) (im rI (j : Int)) :=
  EV.of (hbm pe_w (pa_cons pe_w pa_nil hse)) (EvS.mki fun σ F H l g d Q q => ho σ F H l g d _ fun v F1 H1 l1 w1 ⟨_, h⟩ _ => by
    obtain ⟨a, xs, rfl, h2, h3⟩ := hL h
    refine ⟨Or.inl ⟨rfl, xs, sq_ex w1.e h2⟩, he σ F1 H1 l (g.grow w1) (d.grow g.t w1) _ fun u F2 H2 l2 w2 p2 _ => ?_⟩
    have hxs := hF.all h3
    subst hxs
    refine ⟨a, _, u, j, f x, rfl, rfl, sq_ex (w1.e.trans w2.h) h2, by rw [hF.u p2.2]; exact hF.fl _, hF.flat _, by rw [List.getElem?_map, hj]; rfl, by rw [hF.u p2.2]; exact (hF.eq x x).mpr rfl, fun m z' hm hz => ?_, q _ F2 H2 (w1.trans w2) rfl⟩
    rw [List.getElem?_map] at hz
    obtain ⟨y, hy, rfl⟩ := Option.map_eq_some_iff.mp hz
    rw [hF.u p2.2]
    exact Bool.eq_false_iff.mpr fun q => hno m hm (by rw [hy, (hF.eq y x).mp q]))
/-- (a list that comes new).append(e) -/
theorem HT.appTmp {y : α} (ho : EV X b Γ o (ow R as)) (he : EV X b Γ e (im R y)) (hz : as.length < 100000) (k : HT X b D Γ rest) (hse : starEach [e] X.env = (false, eval e X.env) :: starEach [] X.env := by rfl)
    (hbm : ∀ {t : TE} {ta : TA}, PE X o t → PA X [e] ta → PE X (.Call (.Attribute o "append" apos) [e] [] cpos) (tBM X.K "list" rAppend t ta) := by exact fun h1 h2 => pe_bm PySem.F.plainAttrs_list PySem.F.slot_list_append PySem.F.type_list_append mt_append h1 h2)
    (hs : swapsWith (.Call (.Attribute o "append" apos) [e] [] cpos) none pos.line X.env = pure false := by rfl) : HT X b D Γ (.Expr (.Call (.Attribute o "append" apos) [e] [] cpos) pos :: rest) :=
  HT.step (ps_expr (hbm pe_w (pa_cons pe_w pa_nil hse)) hs) fun σ F H ⟨l, g, d⟩ => ho σ F H l g d _ fun v F1 H1 l1 w1 ⟨r, xs, hv, hl, hr, hxs⟩ fr => by
    subst hv hl
    obtain ⟨f1, f2⟩ := fr r (List.mem_singleton.mpr rfl)
    have g1 := g.grow w1
    have d1 := d.grow g.t w1
    refine ⟨Or.inl ⟨rfl, xs, SqL.of hr⟩, he σ F1 H1 l g1 d1 _ fun u F2 H2 l2 w2 p2 _ => ?_⟩
    have hr2 := w2.h r _ hr
    have fr2 : F2 r = none := w2.k r f2 (by rw [hr]; exact fun z => nomatch z)
    have g2 := g1.grow w2
    have d2 := d1.grow g1.t w2
    have rl : r ∉ l := fun z => g.t r z f1
    have br : b.B r = none := ex_none d.eb f1
    refine ⟨r, xs, u, rfl, rfl, hr2, sz_lt (by rw [hxs.len]; exact hz), ?_⟩
    exact k σ F2 _ ⟨l, g2.m (Ex.refl _) (fun c hc => upd_ne fun z => rl (z ▸ hc)), d2.ef, Ex.mut d2.eb br, Ex.mut d2.e fr2, d2.k, d2.nd, d2.of, d2.ob⟩
theorem EV.lendNo (i : Nat) (hΓ : Γ[i]? = some (some (ow R as))) (h : EV X b (Γ.set i (some (im (rL R) as))) e noS) : EV X b Γ e noS := fun σ F H l g d Q q => by
  obtain ⟨p, xs, l2, fp, hp, g2, d2⟩ := Lg.lend i hΓ g d
  exact h σ _ H l2 g2 d2 Q fun v F' H' l' w e1 _ => e1.elim
end
end Lg

/-! While an exception is handled: texts walked, keys walked, comprehensions, calls. -/
namespace Lg
open PySem PySem.Spec L2 Evl PyProof.Rows HotX L2H
section
variable {prog : Program} {w : World} {A : Around} {E : Value → Shared → Prop} {s : Shared} {x1 it d : Addr}
theorem HotAt.ext {h h' : Heap} (hot : HotAt A x1 h) (hne : x1 ≠ it) (e : Heap.ExtBut it h h') : HotAt A x1 h' := by
  obtain ⟨hh, o, vs, h1, h2, h3⟩ := hot
  exact ⟨hh, o, vs, e x1 o hne h1, h2, h3⟩
/-- a StopIteration is raised there -/
theorem stop_hot {α : Type} {Q : α → Shared → Prop} (hot : HotAt A x1 s.heap) (hE : ∀ h' a, (∀ b o, s.heap.get? b = some o → h'.get? b = some o) → (∃ o, h'.get? a = some o ∧ o.cls = .type "StopIteration") → E (.ref a) { s with heap := h' }) :
    wpAny (model prog w) A (newExc (.type "StopIteration") [] >>= fun e => (raiseNew e : Sem α)) Q E s := by
  obtain ⟨hh, o, vs, h1, h2, h3⟩ := hot
  have k1 := Heap.lt_size h1
  simp only [newExc, newTuple]
  refine wpAny_bind (wpAny_bind (wpAny_newObj_type (wpAny_bind (m := firstArgMember _ _) (wpAny_of_eq (a := Value.none) (by first | rfl | (simp only [firstArgMember]; rfl)) (wpAny_newObj_type ?_ (by size_fits)))) (by size_fits)))
  refine raiseNew_hot ⟨hh, o, vs, Heap.get?_push_of_some _ (Heap.get?_push_of_some _ h1), h2, h3⟩ (fun z => ?_) (Heap.get?_push_size _ rfl) rfl (by first | (simp; done) | (simp; omega)) (hE _ _ (fun b o e => ?_) ⟨_, Heap.get?_update_self _ (Heap.get?_push_size _ rfl) rfl, rfl⟩)
  · have := Heap.lt_size (Heap.get?_push_of_some (h := s.heap) { cls := .type "tuple", data := .seq ([] : List Value).toArray } h1)
    rw [z] at this
    exact absurd this (Nat.lt_irrefl _)
  · have k2 := Heap.get?_push_of_some (h := s.heap) { cls := .type "tuple", data := .seq ([] : List Value).toArray } e
    rw [Heap.get?_update_other _ _ (fun z => by have := Heap.lt_size k2; rw [← z] at this; exact absurd this (Nat.lt_irrefl _))]
    exact Heap.get?_push_of_some _ k2
theorem ascii_end_hot {x : Str} {t : Tok} {i : Nat} {Q : Option Value → Shared → Prop} (hot : HotAt A x1 s.heap) (ne : x1 ≠ it) (hi : s.heap.IsStrIter it "str_ascii_iterator" x t i) (hx : x.cps[i]? = none) (k : ∀ h', Heap.ExtBut it s.heap h' → Q none { s with heap := h' }) : wpAny (model prog w) A (pyNext (.ref it)) Q E s := by
  obtain ⟨o, g1, g2, g3⟩ := id hi
  unfold pyNext
  refine wpAny_bind (wpAny_attempt (wpAny_callSpecial?_slot (name := Str.ofString "__next__") hi.typeIs F.slot_str_ascii_iterator_next (wpAny_call_entry F.slot_str_ascii_iterator_next hi.typeIs F.entry_str_ascii_iterator_next (show wpAny _ _ (field (.ref it) 0 >>= _) _ _ s from wpAny_bind (wpAny_field g1 g3 (x := .str x t) rfl (show wpAny _ _ (field (.ref it) 1 >>= _) _ _ s from wpAny_bind (wpAny_field g1 g3 (x := .int i 0) rfl ?_)))) (F.args_str_ascii_iterator_next_1 _))))
  simp only [Int.toNat_natCast, hx]
  have hot2 : HotAt A x1 (s.heap.update it (Obj.mapFields (·.setIfInBounds 0 Value.none))) := HotAt.ext hot ne (Heap.SameBut.update ..).extBut
  refine wpAny_bind (wpAny_rule (wpAny_bind (wpAny_setField g1 g3 (by simp) (wpAny_bind (wpAny_letGo (stop_hot (x1 := x1) hot2 fun h' a kk hs => ?_))))))
  obtain ⟨oa, e1, e2⟩ := hs
  refine wpAny_bind (wpAny_isInstance (T := "StopIteration") (b := true) ⟨oa, e1, e2⟩ isSubtype_stop (wpAny_pure (k _ fun b ob hb e => kk b ob ?_)))
  exact (Heap.SameBut.update ..).extBut b ob hb e
theorem wide_end_hot {x : Str} {t : Tok} {i : Nat} {Q : Option Value → Shared → Prop} (hot : HotAt A x1 s.heap) (ne : x1 ≠ it) (hi : s.heap.IsStrIter it "str_iterator" x t i) (hx : x.cps[i]? = none) (k : ∀ h', Heap.ExtBut it s.heap h' → Q none { s with heap := h' }) : wpAny (model prog w) A (pyNext (.ref it)) Q E s := by
  obtain ⟨o, g1, g2, g3⟩ := id hi
  unfold pyNext
  refine wpAny_bind (wpAny_attempt (wpAny_callSpecial?_slot (name := Str.ofString "__next__") hi.typeIs F.slot_str_iterator_next (wpAny_call_entry F.slot_str_iterator_next hi.typeIs F.entry_str_iterator_next (show wpAny _ _ (field (.ref it) 0 >>= _) _ _ s from wpAny_bind (wpAny_field g1 g3 (x := .str x t) rfl (show wpAny _ _ (field (.ref it) 1 >>= _) _ _ s from wpAny_bind (wpAny_field g1 g3 (x := .int i 0) rfl ?_)))) (F.args_str_iterator_next_1 _))))
  simp only [Int.toNat_natCast, hx]
  have hot2 : HotAt A x1 (s.heap.update it (Obj.mapFields (·.setIfInBounds 0 Value.none))) := HotAt.ext hot ne (Heap.SameBut.update ..).extBut
  refine wpAny_bind (wpAny_rule (wpAny_bind (wpAny_setField g1 g3 (by simp) (wpAny_bind (wpAny_letGo (stop_hot (x1 := x1) hot2 fun h' a kk hs => ?_))))))
  obtain ⟨oa, e1, e2⟩ := hs
  refine wpAny_bind (wpAny_isInstance (T := "StopIteration") (b := true) ⟨oa, e1, e2⟩ isSubtype_stop (wpAny_pure (k _ fun b ob hb e => kk b ob ?_)))
  exact (Heap.SameBut.update ..).extBut b ob hb e
theorem keys_end_hot {K : Type} [DecidableEq K] {knd : KeyKind prog w K} {i ep : Nat} {kvs : List (K × Value)} {Q : Option Value → Shared → Prop} (hot : HotAt A x1 s.heap) (ne : x1 ≠ it) (hi : s.heap.IsKeyIter it d i kvs.length ep) (hm : s.heap.DictAt knd d kvs ep) (hx : kvs.length ≤ i) (k : ∀ h', Heap.ExtBut it s.heap h' → Q none { s with heap := h' }) :
    wpAny (model prog w) A (pyNext (.ref it)) Q E s := by
  obtain ⟨o, g1, g2, g3⟩ := id hi
  obtain ⟨od, es, e1, e2, e3, e4, e5, e6⟩ := id hm
  have sz : es.size = kvs.length := by rw [← e5.length]; simp
  have hge : es.size ≤ i := by omega
  have own : Builtin.Dict_items.ownsTuple "dict_keyiterator" = false := by decide
  unfold pyNext
  refine wpAny_bind (wpAny_attempt (wpAny_callSpecial?_slot (name := Str.ofString "__next__") hi.typeIs F.slot_dict_keyiterator_next (wpAny_call_entry F.slot_dict_keyiterator_next hi.typeIs F.entry_dict_keyiterator_next (wpAny_bind (wpAny_pure (wpAny_bind (wpAny_bind ?_)))) (F.args_dict_keyiterator_next_1 _))))
  first | refine wpAny_bind (wpAny_typeNameOfWhole_keyiter hi.typeIs (wpAny_pure (wpAny_bind (wpAny_fieldsOf g1 g3 ?_)))) | refine wpAny_bind (wpAny_typeNameOf_keyiter hi.typeIs (wpAny_pure (wpAny_bind (wpAny_fieldsOf g1 g3 ?_))))
  simp only [own, Bool.false_eq_true, if_false]
  show wpAny _ _ (if (Value.ref d == Value.none) = true then _ else _) _ _ s
  have dn : (Value.ref d == Value.none) = false := rfl
  rw [dn, if_neg Bool.false_ne_true]
  refine wpAny_bind (wpAny_pure (wpAny_bind (wpAny_dictEntries e1 e3 ?_)))
  rw [if_neg (by rw [sz]; simp)]
  refine wpAny_bind (wpAny_pure (wpAny_bind (wpAny_dictEpoch e1 e3 ?_)))
  rw [if_neg (by simp)]
  refine wpAny_pure ?_
  simp only [show ¬ ((i : Int) < 0) by omega, if_false, Int.toNat_natCast, Array.getElem?_eq_none hge]
  have hot2 : HotAt A x1 (s.heap.update it (Obj.mapFields (·.setIfInBounds 0 Value.none))) := HotAt.ext hot ne (Heap.SameBut.update ..).extBut
  refine wpAny_bind ?_
  first | refine wpAny_bind (wpAny_typeNameOfWhole_keyiter hi.typeIs (wpAny_pure (show wpAny _ _ (setField (.ref it) 0 .none >>= _) _ _ s from wpAny_bind (wpAny_setField g1 g3 (by simp) ?_)))) | refine wpAny_bind (wpAny_typeNameOf_keyiter hi.typeIs (wpAny_pure (show wpAny _ _ (setField (.ref it) 0 .none >>= _) _ _ s from wpAny_bind (wpAny_setField g1 g3 (by simp) ?_))))
  refine stop_hot (x1 := x1) hot2 fun h' a kk hs => ?_
  obtain ⟨oa, q1, q2⟩ := hs
  refine wpAny_bind (wpAny_isInstance (T := "StopIteration") (b := true) ⟨oa, q1, q2⟩ isSubtype_stop (wpAny_pure (k _ fun b ob hb e => kk b ob ?_)))
  exact (Heap.SameBut.update ..).extBut b ob hb e
theorem walks_keys_hot {K : Type} [DecidableEq K] {knd : KeyKind prog w K} {kvs : List (K × Value)} {ep : Nat} (hne : d ≠ it) (ne : x1 ≠ it) : Walks prog w A it [it, d, x1] [it] kvs.length (fun i v => ∃ k x, kvs[i]? = some (k, x) ∧ knd.is k v = true) (fun i h => (h.IsKeyIter it d i kvs.length ep ∧ h.DictAt knd d kvs ep) ∧ HotAt A x1 h) := by
  refine ⟨fun b hb => ?_, fun i h h' st k => ?_, fun i s Q E hi st k => ?_, fun s Q E st k => ?_, fun i s Q E st q => wpAny_pyIter_keyiter st.1.1 q⟩
  · rw [List.mem_singleton.mp hb]; exact List.mem_cons_self
  · obtain ⟨⟨a1, a2⟩, hh, o, vs, a3, a4, a5⟩ := st
    exact ⟨⟨a1.at fun o e => k it (by simp) o e, a2.at' fun o e => k d (by simp) o e⟩, hh, o, vs, k x1 (by simp) o a3, a4, a5⟩
  · obtain ⟨⟨k0, x0⟩, hx⟩ : ∃ p, kvs[i]? = some p := ⟨kvs[i], List.getElem?_eq_getElem hi⟩
    refine wpAny_pyNext_dict_item st.1.1 st.1.2 hx fun key h' hk hit' sb => ?_
    exact k key h' s.toks ⟨k0, x0, hx, hk⟩ ⟨⟨hit', st.1.2.extBut sb.extBut hne⟩, HotAt.ext st.2 ne sb.extBut⟩ fun b o hb e => sb.extBut b o (fun z => hb (List.mem_singleton.mpr z)) e
  · exact keys_end_hot st.2 ne st.1.1 st.1.2 (Nat.le_refl _) fun h' eb => k h' s.toks fun b o hb e => eb b o (fun z => hb (List.mem_singleton.mpr z)) e
/-- list(d), d a dict -/
theorem list_dict_hot {K : Type} [DecidableEq K] {knd : KeyKind prog w K} {kvs : List (K × Value)} {ep : Nat} {Q : Value → Shared → Prop} (hot : HotAt A x1 s.heap) (lo : (d == sysModules) = false) (hm : s.heap.DictAt knd d kvs ep) (hn : kvs.length ≤ sizeLine)
    (k : ∀ h' tk acc c, (∀ b o, s.heap.get? b = some o → h'.get? b = some o) → h'.get? s.heap.objs.size = some { cls := .type "list", dict := none, data := .seq acc c, slots := #[] } → ItemsOf (fun i v => ∃ k x, kvs[i]? = some (k, x) ∧ knd.is k v = true) acc kvs.length → Q (.ref s.heap.objs.size) { s with heap := h', toks := tk }) :
    wpAny (model prog w) A (call (.type "list") [.ref d]) Q E s := by
  generalize eS : s.heap.objs.size = S at k
  have hdS : d ≠ S := fun z => by have := hm.lt_size; rw [z, eS] at this; exact absurd this (Nat.lt_irrefl _)
  have hxS : x1 ≠ S := fun z => by
    obtain ⟨_, o, _, h1, _⟩ := hot
    have := Heap.lt_size h1
    rw [z, eS] at this; exact absurd this (Nat.lt_irrefl _)
  refine callType_codes (Q₁ := fun obj s₁ => obj = .ref S ∧ s₁ = { s with heap := s.heap.push { cls := .type "list", data := .seq #[] } }) PySem.F.called_list (PySem.F.typeCall_list_1 _) PySem.F.entry_list_init (code_list_new _ ⟨by rw [eS], rfl⟩) fun obj s₁ h₁ => ?_
  obtain ⟨rfl, rfl⟩ := h₁
  have hS : (s.heap.push { cls := .type "list", data := .seq #[] }).get? S = some { cls := .type "list", data := .seq #[] } := by rw [← eS]; exact Heap.get?_push_size _ rfl
  refine ⟨⟨_, hS, rfl⟩, PySem.F.args_list_init_2 _ _, ?_⟩
  have kp : ∀ b o, s.heap.get? b = some o → (s.heap.push { cls := .type "list", data := .seq #[] }).get? b = some o := fun b o e => Heap.get?_push_of_some _ e
  have old : ∀ b o, s.heap.get? b = some o → b ≠ S := fun b o e z => by have := Heap.lt_size e; rw [z, eS] at this; exact absurd this (Nat.lt_irrefl _)
  have up : ∀ (h : Heap) (f : Array Value → Array Value), ∀ b o, b ≠ S → h.get? b = some o → (h.update S (Obj.mapSeq f)).get? b = some o := fun h f b o hb e => (Heap.get?_update_other _ _ (Ne.symm hb)).trans e
  show wpAny _ _ (do let old ← Builtin.List.listItems (.ref S); Builtin.List.listUpdate (.ref S) (fun _ => #[]); letGo old.toList.reverse; Builtin.List.listExtendWith (.ref S) (.ref d) .none) _ _ _
  refine wpAny_bind ?_
  unfold Builtin.List.listItems
  refine wpAny_bind (wpAny_seqItems hS rfl (wpAny_pure ?_))
  refine wpAny_bind (m := updateSeq S (fun _ => #[])) (wpAny_updateSeq hS rfl ?_)
  refine wpAny_bind (wpAny_letGo ?_)
  have hS2 := Heap.get?_update_self (Obj.mapSeq (fun _ => (#[] : Array Value))) hS rfl
  generalize eh2 : (s.heap.push { cls := .type "list", data := .seq #[] }).update S (Obj.mapSeq (fun _ => (#[] : Array Value))) = h2 at hS2
  have k2 : ∀ b o, s.heap.get? b = some o → h2.get? b = some o := fun b o e => by
    rw [← eh2]; exact up _ _ b o (old b o e) (kp b o e)
  have hm2 : h2.DictAt knd d kvs ep := hm.at' fun o e => k2 d o e
  have hot2 : HotAt A x1 h2 := by
    obtain ⟨hh, o, vs, a1, a2, a3⟩ := hot
    exact ⟨hh, o, vs, k2 x1 o a1, a2, a3⟩
  have hI : S ≠ h2.objs.size := Nat.ne_of_lt (Heap.lt_size hS2)
  have hdI : d ≠ h2.objs.size := Nat.ne_of_lt hm2.lt_size
  have hxI : x1 ≠ h2.objs.size := by
    obtain ⟨_, o, _, a1, _⟩ := hot2
    exact Nat.ne_of_lt (Heap.lt_size a1)
  have fin : ∀ (h : Heap) (c₁ tk : Nat), ((h.IsKeyIter h2.objs.size d 0 kvs.length ep ∧ h.DictAt knd d kvs ep) ∧ HotAt A x1 h) → (∀ b o, b ≠ S → h2.get? b = some o → h.get? b = some o) → h.get? S = some { cls := .type "list", data := .seq #[] c₁ } →
      codeAny (model prog w) A.in1 (.builtin "list.extend.loop" ⟨[.ref S, .ref h2.objs.size, .none], []⟩) (wants (fun r s₂ => r = .none ∧ Q (.ref S) s₂) E) { s with heap := h, toks := tk } := fun h c₁ tk st kk hh => by
    refine codeAny_extend_loopS (Walks.toS (walks_keys_hot (A := A.in1.in1) (x1 := x1) hdI hxI)) hn S (by simp only [List.mem_cons, List.not_mem_nil, or_false, not_or]; exact ⟨hI, Ne.symm hdS, Ne.symm hxS⟩) .none kvs.length 0 _ #[] c₁ rfl (Nat.zero_le _) st hh (ItemsOf.nil _) fun s' acc' c' mv hS' hacc => ?_
    rw [Moved.eq_with mv]
    refine ⟨rfl, k s'.heap s'.toks acc' c' (fun b o e => mv.heap b o (fun hb => ?_) (kk b o (old b o e) (k2 b o e))) hS' hacc⟩
    rcases List.mem_cons.mp hb with z | z
    · exact old b o e z
    · have := Heap.lt_size (k2 b o e)
      rw [List.mem_singleton.mp z] at this; exact absurd this (Nat.lt_irrefl _)
  unfold Builtin.List.listExtendWith
  refine wpAny_bind (wpAny_typeOf (T := "dict") (s := { s with heap := h2 }) hm2.dictOf.typeIs ?_)
  have n1 : Builtin.List.listSameRef (.ref S) (.ref d) = false := by simp [Builtin.List.listSameRef, Ne.symm hdS]
  have n2 : (Value.type "dict" == Value.type "list") = false := by decide
  have n3 : (Value.type "dict" == Value.type "tuple") = false := by decide
  simp only [n1, n2, n3, Bool.or_false, Bool.false_eq_true, if_false]
  refine wpAny_bind (wpAny_pyIter_dict (s := { s with heap := h2 }) lo hm2 ?_)
  generalize eo : ({ cls := .type "dict_keyiterator", data := .fields #[.ref d, .int 0 0, .int kvs.length 0, .int ep 0] } : Obj) = oI
  have hit : (h2.push oI).IsKeyIter h2.objs.size d 0 kvs.length ep := by
    rw [← eo]; exact ⟨_, Heap.get?_push_size _ rfl, rfl, rfl⟩
  have hS3 := Heap.get?_push_of_some oI hS2
  have hm3 : (h2.push oI).DictAt knd d kvs ep := hm2.push _
  have hot3 : HotAt A x1 (h2.push oI) := by
    obtain ⟨hh, o, vs, a1, a2, a3⟩ := hot2
    exact ⟨hh, o, vs, Heap.get?_push_of_some _ a1, a2, a3⟩
  refine wpAny_bind (wpAny_holding (PySem.W.kdl_hint_dict (s := { s with heap := h2.push oI }) hm3.dictOf.typeIs ?_))
  refine wpAny_ite_split (fun _ => ?_) (fun _ => wpAny_pure ⟨plainId_quiet PySem.F.plain_extend_loop _, fin (h2.push oI) _ s.toks ⟨⟨hit, hm3⟩, hot3⟩ (fun b o _ e => Heap.get?_push_of_some _ e) hS3⟩)
  refine wpAny_bind (wpAny_rule (wpAny_bind (m := updateSeq S (·.push .none) >>= fun _ => updateSeq S (·.pop)) (wpAny_bind (wpAny_updateSeq hS3 rfl ?_))))
  have hS4 := Heap.get?_update_self (Obj.mapSeq (·.push Value.none)) hS3 rfl
  refine wpAny_updateSeq (hz := by seq_fits) hS4 rfl (wpAny_pure ⟨plainId_quiet PySem.F.plain_extend_loop _, fin _ _ s.toks ⟨⟨hit.at fun o e => ?_, hm3.at' fun o e => ?_⟩, ?_⟩ (fun b o hb e => ?_) (Heap.get?_update_self (Obj.mapSeq (·.pop)) hS4 rfl)⟩)
  · exact up _ _ _ o (Ne.symm hI) (up _ _ _ o (Ne.symm hI) e)
  · exact up _ _ _ o hdS (up _ _ _ o hdS e)
  · obtain ⟨hh, o, vs, a1, a2, a3⟩ := hot3
    exact ⟨hh, o, vs, up _ _ _ o hxS (up _ _ _ o hxS a1), a2, a3⟩
  · exact up _ _ _ o hb (up _ _ _ o hb (Heap.get?_push_of_some _ e))
end
end Lg

namespace Lg
open PySem PySem.Spec L2 Evl PyProof.Rows HotX L2H
section
variable {X : Cx}
theorem strEndHot {prog : Program} {w : World} {A : Around} {E : Value → Shared → Prop} {s : Shared} {x1 it : Addr} {ty : String} {x : Str} {t : Tok} {i : Nat} {Q : Option Value → Shared → Prop} (hty : ty = "str_ascii_iterator" ∨ ty = "str_iterator") (hot : HotAt A x1 s.heap) (ne : x1 ≠ it) (hi : s.heap.IsStrIter it ty x t i) (hx : x.cps[i]? = none)
    (k : ∀ h', Heap.ExtBut it s.heap h' → Q none { s with heap := h' }) : wpAny (model prog w) A (pyNext (.ref it)) Q E s := by
  rcases hty with e | e <;> subst e
  · exact ascii_end_hot hot ne hi hx k
  · exact wide_end_hot hot ne hi hx k
theorem strItem {prog : Program} {w : World} {A : Around} {E : Value → Shared → Prop} {s : Shared} {it : Addr} {ty : String} {x : Str} {t : Tok} {i c : Nat} {Q : Option Value → Shared → Prop} (hty : ty = "str_ascii_iterator" ∨ ty = "str_iterator") (hi : s.heap.IsStrIter it ty x t i) (hx : x.cps[i]? = some c)
    (k : ∀ h', h'.IsStrIter it ty x t (i + 1) → Heap.SameBut it s.heap h' → Q (some (.str ⟨#[c]⟩ s.toks)) { s with heap := h', toks := s.toks + 1 }) : wpAny (model prog w) A (pyNext (.ref it)) Q E s := by
  rcases hty with e | e <;> subst e
  · exact wpAny_pyNext_ascii_item hi hx k
  · exact wpAny_pyNext_wide_item hi hx k
/-- a list comprehension over a text, where an exception is handled -/
theorem pe_lcStrH {elt tg iter : Expr} {ifs : List Expr} {scope : Scope} {own : List (Str × Nat)} {pos : Pos} {t0 : TE} {g : TG} {tt : TT} {te : TE} (hc : HotC X) (hN : X.N.Nodup) (h0 : PE X iter t0) (ok : BlkOk X.N X.env.scope scope own)
    (hg : ∀ (s : Shared) (H : Hp) (C : Addr) (cl : List (Str × Addr)) (fp : List Addr), PG (X.blk s H scope (compEnvC scope cl C X.env) fp) tg g) (ht : ∀ (s : Shared) (H : Hp) (C : Addr) (cl : List (Str × Addr)) (fp : List Addr), PTs (X.blk s H scope (compEnvC scope cl C X.env) fp) ifs tt)
    (he : ∀ (s : Shared) (H : Hp) (C : Addr) (cl : List (Str × Addr)) (fp : List Addr), PE (X.blk s H scope (compEnvC scope cl C X.env) fp) elt te) (hs : ∀ x, foldedSetIterable iter X.env x = pure x) :
    PE X (.ListComp elt [⟨tg, iter, ifs, 0⟩] scope pos) (tLc (iStr t0) g tt te (own.map (·.2))) := ⟨fun pins s σ H Q I h => by
  rw [eval_ListComp]
  have fr : ∀ y ∈ scope.names, y.2 = .free → ∃ c, X.env.cells.lookup y.1 = some c := fun y hy e => (ok.free y hy e).elim (fun k => I.ok.has _ (.inl k)) fun k => I.ok.has _ (.inr k)
  refine wpAny_comprehension_free rfl hs (closure_ok fr) ok.kind (fun y hy e => (ok.uniq y hy).trans (congrArg some e)) (thn (h0.run pins s σ H _ I h) fun xv s1 ⟨v, H1, I1, r1, x, ex, q⟩ => ?_)
  subst ex
  obtain ⟨t, rfl⟩ := r1
  have go : ∀ ty : String, (ty = "str_ascii_iterator" ∨ ty = "str_iterator") → ∀ Q' : Value → Shared → Prop, (∀ itv s2, Q' itv s2 ↔ wpAny (model X.prog X.w) X.A (newList []) (fun acc s₃ => wpAny (model X.prog X.w) X.A (newFunctionEnv scope X.env.globals (cloFrom X.env.cells scope.names []) [] X.env.qual none .none (some X.env)) (fun cenv s₄ =>
      codeAny (model X.prog X.w) X.A (.compStart (.ListComp elt [⟨tg, iter, ifs, 0⟩] scope pos) 0 itv acc { cenv with scope := relabel scope X.env }) (compPost (model X.prog X.w) X.A X.xe none (EP X pins σ Q) acc cenv.locals) s₄) X.xe s₃) X.xe s2) →
      Q' (.ref s1.heap.objs.size) { s1 with heap := s1.heap.push { cls := .type ty, data := .fields #[.str x t, .int 0 0] } } := fun ty hty Q' hQ' => by
    rw [hQ']
    generalize ei : s1.heap.objs.size = it
    generalize eo : ({ cls := .type ty, data := .fields #[.str x t, .int 0 0] } : Obj) = oI
    have st2 : (s1.heap.push oI).IsStrIter it ty x t 0 := by rw [← ei, ← eo]; exact ⟨_, Heap.get?_push_size _ rfl, rfl, rfl⟩
    have I2 : Inv X pins σ H1 { s1 with heap := s1.heap.push oI } := I1.kept (t' := s1.toks) fun b o e => Heap.get?_push_of_some _ e
    have f2 : FpOk X pins H1 it := I1.fpOk (Nat.le_of_eq ei) (I1.hok.fresh (Nat.le_of_eq ei))
    have lt2 : it < (s1.heap.push oI).objs.size := by rw [Heap.size_push, ei]; exact Nat.lt_succ_self _
    generalize e2 : ({ s1 with heap := s1.heap.push oI } : Shared) = s2 at I2
    have st2 : s2.heap.IsStrIter it ty x t 0 := by rw [← e2]; exact st2
    have lt2 : it < s2.heap.objs.size := by rw [← e2]; exact lt2
    refine wpAny_newObj_type (newEnv_comp ?_) (by show 0 ≤ sizeLine; decide)
    generalize eD : s2.heap.objs.size = D
    obtain ⟨W, ⟨m0, w0⟩, turn⟩ := q D (I2.hok.fresh (Nat.le_of_eq eD))
    generalize eL : ({ cls := .type "list", data := .seq ([] : List Value).toArray } : Obj) = oL
    have I3 : Inv X pins σ (upd H1 D (.lst [])) { s2 with heap := s2.heap.push oL } := I2.laid (t' := s2.toks) (fun b o e => Heap.get?_push_of_some _ e) (Nat.le_of_eq eD) ⟨Nat.zero_le _, [], 0, .nil, by rw [← eD, ← eL]; exact Heap.get?_push_size _ rfl⟩
    have f3 : FpOk X pins (upd H1 D (.lst [])) it ∧ it < (s2.heap.push oL).objs.size := ⟨⟨by rw [upd_ne (by rw [← eD]; exact Nat.ne_of_lt lt2)]; exact f2.1, f2.2⟩, by rw [Heap.size_push]; exact Nat.lt_succ_of_lt lt2⟩
    have st3 : (s2.heap.push oL).IsStrIter it ty x t 0 := let ⟨o, ho, r⟩ := st2; ⟨o, Heap.get?_push_of_some _ ho, r⟩
    generalize e3 : ({ s2 with heap := s2.heap.push oL } : Shared) = s3 at I3
    have h3 : s3.heap = s2.heap.push oL := by rw [← e3]
    rw [← h3] at f3 st3
    have I4 := block_start I3 ok hN (fp := [it]) fun b hb => by rw [List.mem_singleton.mp hb]; exact f3
    have pg := hg s3 (upd H1 D (.lst [])) s3.heap.objs.size (cellsFrom (s3.heap.objs.size + 1) scope.names (cloFrom X.env.cells scope.names [])) [it]
    have pt := ht s3 (upd H1 D (.lst [])) s3.heap.objs.size (cellsFrom (s3.heap.objs.size + 1) scope.names (cloFrom X.env.cells scope.names [])) [it]
    have pe := he s3 (upd H1 D (.lst [])) s3.heap.objs.size (cellsFrom (s3.heap.objs.size + 1) scope.names (cloFrom X.env.cells scope.names [])) [it]
    show codeAny _ _ (.compStart (.ListComp elt [⟨tg, iter, ifs, 0⟩] scope pos) 0 (.ref it) (.ref D) (compEnvC scope (cellsFrom (s3.heap.objs.size + 1) scope.names (cloFrom X.env.cells scope.names [])) s3.heap.objs.size X.env)) (compPost (model X.prog X.w) X.A X.xe none (EP X pins σ Q) (.ref D) s3.heap.objs.size) { s3 with heap := pushCells (s3.heap.push { cls := .type "dict", data := .dict #[] }) scope.names }
    generalize ec : compEnvC scope (cellsFrom (s3.heap.objs.size + 1) scope.names (cloFrom X.env.cells scope.names [])) s3.heap.objs.size X.env = ce at I4 pg pt pe ⊢
    have cL : ce.locals = s3.heap.objs.size := by rw [← ec]; rfl
    generalize eH3 : upd H1 D (.lst []) = H3 at I3 I4 pg pt pe w0 f3
    generalize e4 : ({ s3 with heap := pushCells (s3.heap.push { cls := .type "dict", data := .dict #[] }) scope.names } : Shared) = s4 at I4 ⊢
    have st4 : s4.heap.IsStrIter it ty x t 0 := let ⟨o, ho, r⟩ := st3; ⟨o, by rw [← e4]; exact pushCells_keeps _ _ _ _ (Heap.get?_push_of_some _ ho), r⟩
    obtain ⟨p1, hot, hp1⟩ := hc
    have P3 := I3.pin p1 (List.mem_append_left _ hp1)
    have ne1 : p1.1 ≠ it := f3.1.2.2.2.2.2 p1 (List.mem_append_left _ hp1)
    have fpB : ∀ {σ' : L2.St} {H' : Hp} {s' : Shared}, Inv (X.blk s3 H3 scope ce [it]) [] σ' H' s' → H' it = none → FpOk (X.blk s3 H3 scope ce [it]) [] H' it := fun {σ' H' s'} J hn =>
      ⟨hn, (J.ok.exf it List.mem_cons_self).1, J.ok.exfs it List.mem_cons_self, .inl List.mem_cons_self, fun x c e => (J.ok.exf it List.mem_cons_self).2 x c e, fun p hp => absurd (show p ∈ ([] : List (Addr × Obj)) ++ [] from hp) (by simp)⟩
    have loop : codeAny (model X.prog X.w) X.A (.compLoop (.ListComp elt [⟨tg, iter, ifs, 0⟩] scope pos) 0 (.ref it) (.ref D) ce) (compPost (model X.prog X.w) X.A X.xe none (EP X pins σ Q) (.ref D) s3.heap.objs.size) s4 := by
      refine compLoop_any (fun n s' => ∃ i H', Inv (X.blk s3 H3 scope ce [it]) [] (wipe σ (own.map (·.2))) H' s' ∧ s'.heap.IsStrIter it ty x t i ∧ H' it = none ∧ W i n H') (fun n s5 hI => ?_) m0 ⟨0, H3, I4, st4, f3.1.1, w0⟩
      obtain ⟨i, H5, I5, st5, n5, w5⟩ := hI
      rcases turn i n H5 w5 with ⟨stop, qq⟩ | ⟨gon, Nx, hNx, step⟩
      · have stop : x.cps.size ≤ i := stop
        have hot5 : HotAt X.A p1.1 s5.heap := by
          obtain ⟨hh, vs, v1, v2⟩ := hot
          exact ⟨hh, p1.2, vs, I5.base.keep _ _ P3.1 P3.2.1 (fun hm => (List.mem_cons.mp (I3.stkSub p1.1 hm)).elim P3.2.2.1 P3.2.2.2.1) (fun z => ne1 (List.mem_singleton.mp z)), v1, v2⟩
        obtain ⟨f0, g1, g2, g3, g4, g5⟩ := fpB I5 n5
        refine strEndHot hty hot5 ne1 st5 (Array.getElem?_eq_none stop) fun h' eb => ?_
        have I6 := I5.turned (t' := s5.toks) (fun b o hb e => eb b o hb e) f0 g1 g3 g4 g5
        have I7 : Inv X pins σ H5 { s5 with heap := h' } := I3.call' (ch := [it]) I6.os I6.base I6.hok I6.bare fun b hb => by rw [List.mem_singleton.mp hb]; exact ⟨f3.1.2.2.2.1, f3.1.2.1, f3.1.2.2.2.2.1, f3.1.2.2.2.2.2⟩
        have nC : H5 s3.heap.objs.size = none := by rw [← cL]; exact I6.free
        obtain ⟨m, hn, _⟩ := I6.loc
        have hn : Heap.Ns h' s3.heap.objs.size m := by rw [← cL]; exact hn
        refine ⟨m, hn, fun h'' sb => ?_⟩
        obtain ⟨f0, g1, g2, g3, g4, g5⟩ := I3.fpOk (Nat.le_refl _) nC
        exact ⟨.ref D, H5, I7.turned (t' := s5.toks) (fun b o hb e => (sb.2 b hb).trans e) f0 g1 g3 g4 g5, rfl, qq⟩
      · have gon : i < x.cps.size := gon
        obtain ⟨f0, g1, g2, g3, g4, g5⟩ := fpB I5 n5
        refine strItem hty st5 (Array.getElem?_eq_getElem gon) fun h' st' sb => ?_
        have I6 : Inv (X.blk s3 H3 scope ce [it]) [] (wipe σ (own.map (·.2))) H5 { s5 with heap := h', toks := s5.toks + 1 } := I5.turned (fun b o hb e => (sb.2 b hb).trans e) f0 g1 g3 g4 g5
        have hno : ["enumerate", "zip", "dict_itemiterator", "dict_reverseitemiterator", "odict_iterator", "itertools.zip_longest", "itertools.pairwise"].contains ty = false := by
          rcases hty with e | e <;> subst e <;> decide
        obtain ⟨oi, k1, k2, k3⟩ := id st'
        refine go_of (s := { s5 with heap := h', toks := s5.toks + 1 }) k1 k2 k3 hno ?_
        have I6' := I6.pinned (fp := [it]) (fun b hb => by rw [List.mem_singleton.mp hb]; exact fpB I6 n5) (fun b hb => by rw [List.mem_singleton.mp hb]; exact ⟨oi, k1, fun v z => by rw [k3] at z; cases z⟩)
        refine thnF (pg.run _ _ _ H5 (.str ⟨#[x.cps[i]]⟩) _ _ I6' ⟨_, rfl⟩ (step _ H5 ⟨rfl, x.cps[i], Array.getElem?_eq_getElem gon, rfl⟩)) fun _ s8 ⟨σ8, H8, I8, hw8, q8⟩ => ?_
        refine thnF (pt.run _ s8 σ8 H8 _ I8 q8) fun b s9 ⟨H9, I9, q9⟩ => ?_
        have fin : ∀ {s' : Shared} {H' : Hp}, Inv (X.blk s3 H3 scope ce [it]) ([] ++ pinsAt [it] h') σ8 H' s' → Nx H' → ∃ m, m < n ∧ ∃ i H', Inv (X.blk s3 H3 scope ce [it]) [] (wipe σ (own.map (·.2))) H' s' ∧ s'.heap.IsStrIter it ty x t i ∧ H' it = none ∧ W i m H' := fun {s' H'} J nx => by
          obtain ⟨m', hm, w'⟩ := hNx H' nx
          have pin' := J.pin (it, oi) (List.mem_append_right _ (List.mem_append_right _ (mem_pinsAt (fp := [it]) List.mem_cons_self k1)))
          refine ⟨m', hm, i + 1, H', (J.unpinned (pins := [])).weak (by rw [← wipe_length (σ := σ8) (vs := own.map (·.2)), hw8]) (fun j v e => ?_), ⟨oi, pin'.1, k2, k3⟩, pin'.2.1, w'⟩
          rw [← hw8] at e
          exact (wipe_some e).1
        cases b with
        | false =>
          simp only [Bool.false_eq_true, if_false] at q9 ⊢
          exact fin I9 q9
        | true =>
          simp only [if_true] at q9 ⊢
          refine thnF (pe.run _ s9 σ8 H9 _ I9 q9) fun z s10 ⟨yv, H10, I10, r10, acc, hD10, hz10, nx⟩ => ?_
          exact app_ok (X := X.blk s3 H3 scope ce [it]) I10 hD10 hz10 r10 fun s11 I11 => fin I11 nx
    refine codeAny_compStart_list loop ?_
    rcases hty with e | e <;> subst e
    · exact wpAny_pyIter_striter_ascii st4 loop
    · exact wpAny_pyIter_striter_wide st4 loop
  cases ha : x.cps.all (· < 128) with
  | false => exact wpAny_pyIter_wide ha (go "str_iterator" (.inr rfl) _ fun _ _ => Iff.rfl)
  | true => exact wpAny_pyIter_ascii ha (go "str_ascii_iterator" (.inl rfl) _ fun _ _ => Iff.rfl)⟩
end
end Lg

/-! The rules for defs that are called while an exception is handled. -/
namespace Lg
open PySem L2 Evl PyProof.Rows HotX L2H
structure KnH (P : Program) (w : World) (K : PySem.W.Frag) (mg : Str → Option Value) (base : Heap) (k : Nat) (x : Str) (ps : List Str) (sp : Sp) : Prop where
  ex : ∃ f fd, FnH P w K mg base (L2N.CX P w) k f fd ps sp ∧ mg x = some (.ref f) ∧ PySem.W.keepIn K (.ref f) = true ∧ Binds K fd ps []
structure KnMH (P : Program) (w : World) (K : PySem.W.Frag) (mg : Str → Option Value) (base : Heap) (k : Nat) (C : Addr) (m : Str) (ps : List Str) (sp : Sp) : Prop where
  ex : ∃ f fd, FnH P w K mg base (L2N.CX P w) k f fd ps sp ∧ Meth K C m f ∧ Binds K fd ps []
  cl : Cls K C
/-- the suite's context bears the exception -/
theorem hotSuite {X : Cx} {a : Addr} {oe : Obj} {pn : List (Addr × Obj)} {C : Value} {d : Option Addr} (hz : L2N.Zn C d oe) (hv : ∃ vs, oe.data = .fields vs) : HotC (X.suite a ((a, oe) :: pn)) := by
  obtain ⟨vs, hv⟩ := hv
  exact ⟨(a, oe), ⟨rfl, vs, hv, hz.2.2 vs hv⟩, List.mem_cons_self⟩
theorem hotH {CX : CXT} {P : Program} {w : World} {K : PySem.W.Frag} {mg : Str → Option Value} {base : Heap} {N : List Str} {qual : Str} {scope : Scope} {f : Addr} {cd : Value} {A : Around} {outer : List Env} {s : Shared} {H : Hp} {E : XK} {p : Addr × Obj} (h : Hot1 A p) : HotC (cxH CX P w K mg base N qual scope f cd A outer s H E p) :=
  ⟨p, h, List.mem_singleton.mpr rfl⟩
section
variable {P : Program} {w : World} {K : PySem.W.Frag} {mg : Str → Option Value} {base : Heap} {x qual : Str} {st : Stmt} {f : Addr} {fd : FuncData} {N ps : List Str} {k : Nat} {ι : Type} {A : ι → List Im} {pre : ι → Prop} {res : ι → Rs}
theorem fn_okH (F : Fun K x qual st f fd) (S : FnScope N ps (defScope st)) (hA : ∀ i, (A i).length = ps.length)
    (body : ∀ (i : ι) (B : Bs) (cdv : Value) (A' : Around) (outer : List Env) (s : Shared) (H : Hp) (E : XK) (p : Addr × Obj), Hot1 A' p → pre i → RoomH k (A'.deeper (envOfC qual (defScope st) s.heap.objs.size f cdv)) → (∀ C, res i = .err C → ∀ H', Ex B.B H' → E (.ref C) none H') →
      HT (cxH (L2N.CX P w) P w K mg base N qual (defScope st) f cdv A' outer s H E p) B ⟨fun _ => res i = .ok (im rU ()), fun s => res i = .ok s, fun _ => False, fun _ => False⟩ (c0 (A i) (N.length - ps.length)) (defBody st)) :
    FnH P w K mg base (L2N.CX P w) (k + 1) f fd ps (spX A pre res) := by
  obtain ⟨oc, od, kV, dc, pm, an, cdv, ct, sl, e, lk, hcd⟩ := F.ex
  rw [e] at *
  refine fn_ofH lk hcd S (fun vs H Q E ⟨i, F, _, hv, _⟩ => by rw [hv.len, hA i]) fun A' outer s H vs Q E p hot hr ⟨i, F0, hF, hv, hp, h1, h2⟩ => ⟨_, pss_w, ?_⟩
  have hn : vs.length = ps.length := by rw [hv.len, hA i]
  have g0 : Sg ⟨F0, H⟩ (c0 (A i) (N.length - ps.length)) (L2.start N vs) F0 H := ⟨[], by
    unfold L2.start
    rw [hn]
    exact SgL.args _ hv, Ex.refl _, Ex.refl _, hF, fun _ h _ => h, List.nodup_nil, fun _ h => (nomatch h), fun _ h => nomatch h⟩
  refine wS.mono (body i ⟨F0, H⟩ cdv A' outer s H E p hot hp hr h2 _ F0 H g0) (fun σ' H' h => ?_) (fun v H' h => ?_) (fun _ _ h => ?_) (fun _ _ h => ?_)
  · obtain ⟨Γ, F', ⟨l, _, d⟩, h⟩ := h
    exact h1 _ h .non F' H' [] ⟨d.ef, d.eb, d.e, fun a q1 q2 => d.k a q1 q2⟩ ⟨rfl, rfl⟩ fun _ h => nomatch h
  · obtain ⟨s', F', l, p, d, h⟩ := h
    exact h1 _ h v F' H' l ⟨d.ef, d.eb, d.e, fun a q1 q2 => d.k a q1 q2⟩ p fun a ha => ⟨d.ob a ha, d.of a ha⟩
  · obtain ⟨_, _, _, h⟩ := h; exact h.elim
  · obtain ⟨_, _, _, h⟩ := h; exact h.elim
end
section
variable {X : Cx} {b : Bs} {Γ : Lg.Ctx} {C : EndC} {k : Nat} {x m n : Str} {ps : List Str} {ι β α : Type} {A : ι → List Im} {pre : ι → Prop} {res : ι → Rs} {i : ι} {s : Sl} {e o tg : Expr} {es : List Expr} {p np pos apos : Pos} {W : WX} {CC : Addr} {rest bd : List Stmt}
theorem EV.callH (T : KnH X.prog X.w X.K X.mg X.base k x ps (spX A pre res)) (hr : RoomH k X.A) (hc : HotC X) (tk : L2N.Takes X W) (ha : AV X b Γ (e :: es) (A i)) (hp : pre i) (h1 : res i = .ok s) (hg : Gl X x := by rfl)
    (hdb : (x == ("__debug__" : Str)) = false := by decide) (he : starEach (e :: es) X.env = (false, eval e X.env) :: starEach es X.env := by rfl) (hpl : (backTo pos (starEach es X.env)).any (·.1) = false := by rfl) : EV X b Γ (.Call (.Name x p) (e :: es) [] pos) s := by
  obtain ⟨ta, p1, p2⟩ := ha
  obtain ⟨f, fd, F, hm, hk, hb⟩ := T.ex
  refine EV.of (pe_callH F hr hc hg hm hk hb (fun σ => L2N.passAt tk σ) p1 hdb he hpl) fun σ F H l g d Q q => p2 σ F H l g d _ fun vs F1 H1 w hv => ?_
  refine ⟨i, F1, w.e, hv, hp, fun s' hs v F' H' l' w' p f => ?_, fun C hC H' h => ?_⟩
  · rw [h1] at hs
    cases hs
    exact q v F' H' l' (w.trans w') p fun a ha => ⟨ex_none w.h (f a ha).1, (f a ha).2⟩
  · rw [h1] at hC; cases hC
/-- a loop over range(n) there -/
theorem HT.forH {a : Expr} {j : Int} {p pos' : Pos} (hc : HotC X) (ha : AV X b Γ [a] [mk rI j]) (hj : -(2 ^ 62) ≤ j ∧ j < 2 ^ 62) (hm : X.mg "range" = none) (Inv : Nat → Lg.Ctx → Prop) (h0 : Inv 0 Γ)
    (hs : ∀ b' i y Γ', b'.B = b.B → i < j.toNat → IRz i y → Inv i Γ' → ∃ Γ'', GV X b' Γ' tg y Γ'' ∧ HT X b' { C with nx := Inv (i + 1), ct := Inv (i + 1), bk := fun Γ => HT X b C Γ rest } Γ'' bd) (hd : ∀ Γ', Inv j.toNat Γ' → HT X b C Γ' rest)
    (hp : PassesOwn (model X.prog X.w) X.A X.env X.xe) (hg : Gl X "range" := by rfl) (hse : starEach [a] X.env = [(false, eval a X.env)] := by rfl) (hf : ∀ x, foldedSetIterable (.Call (.Name "range" p) [a] [] pos') X.env x = pure x := by intro _; rfl) : HT X b C Γ (.For tg (.Call (.Name "range" p) [a] [] pos') bd [] pos :: rest) := by
  obtain ⟨ta, p1, k1⟩ := ha
  refine HT.step (ps_forH hp hc (pi_range1H hg hm p1 hse) pg_w pss_w hf) fun σ F H ⟨l, g, d⟩ => k1 σ F H l g d _ fun vs F1 H1 w hv => ?_
  obtain ⟨v, rfl, hv1⟩ := ims1 hv
  refine ⟨j, by rw [show v = V.int j from hv1], hj.1, hj.2, ?_⟩
  have d1 := d.grow g.t w
  have u1 := d1.up
  refine for_it walk_range (fun i σ' H' => At ⟨F1, b.B⟩ (Inv i) σ' H') ⟨Γ, F1, ⟨l, g.grow w, d1.self⟩, h0⟩ (fun i σ' H' _ _ => trivial) (fun i v σ' H' H'' hi ⟨Γ', F', ⟨l', g', d'⟩, iv⟩ y => ?_) (fun σ' H' ⟨Γ', F', g', iv⟩ => hd Γ' iv σ' F' H' (u1.sg g'))
  obtain ⟨rfl, rfl⟩ := y
  obtain ⟨Γ'', ⟨g0, q1, q2⟩, q3⟩ := hs ⟨F', b.B⟩ i (mk rI (i : Int)) Γ' rfl hi rfl iv
  have u2 : Up ⟨F1, b.B⟩ ⟨F', b.B⟩ := d'.up
  refine wG.of q1 (q2 σ' F' _ _ ⟨l', g', d'.self⟩ (show V.int (0 + (i : Int)) = V.int (i : Int) by rw [Int.zero_add]) _ fun σ2 g2 => ?_)
  refine wS.mono (q3 σ2 F' _ g2) (fun _ _ h => u2.at h) (fun _ _ h => u1.rt (u2.rt h)) (fun σ3 H3 h => ?_) (fun _ _ h => u2.at h)
  obtain ⟨Γ3, F3, g3, h3⟩ := h
  exact h3 σ3 F3 H3 (u1.sg (u2.sg g3))
/-- [n for n in text if ..] there -/
theorem EV.lcStrH {z : Str} {iter tst : Expr} {scope : Scope} {j : Nat} {elt : Expr} {γ : Type} {S : Rl γ} (hc : HotC X) (q : Str → Bool) (f : Str → γ) (hi : EV X b Γ iter (im rS z)) (nd : X.N.Nodup) (ok : blkC X.N X.env.scope scope [(n, j)] = true) (hz : z.length ≤ 100000)
    (ht : ∀ (b' : Bs) (i : Nat) (a : Str) s H0 C cl fp, b'.B = b.B → ((cs z).map sg)[i]? = some a → TV (X.blk s H0 scope (compEnvC scope cl C X.env) fp) b' (Sb Γ j (mk rS a)) tst (q a))
    (he : ∀ (b' : Bs) (i : Nat) (a : Str) s H0 C cl fp, b'.B = b.B → ((cs z).map sg)[i]? = some a → q a = true → EV (X.blk s H0 scope (compEnvC scope cl C X.env) fp) b' (Sb Γ j (mk rS a)) elt (im S (f a)))
    (hg : ∀ (s : Shared) (H0 : Hp) (C : Addr) (cl : List (Str × Addr)) (fp : List Addr), PG (X.blk s H0 scope (compEnvC scope cl C X.env) fp) (.Name n np) (gName j)) (hf : ∀ x, foldedSetIterable iter X.env x = pure x := by intro _; rfl) :
    EV X b Γ (.ListComp elt [⟨.Name n np, iter, [tst], 0⟩] scope pos) (ow S ((((cs z).map sg).filter q).map f)) := by
  let as := (cs z).map sg
  let out : Nat → Option γ := fun i => as[i]?.bind fun a => if q a then some (f a) else none
  have hl : as.length ≤ 100000 := by show ((cs z).map sg).length ≤ _; rw [List.length_map, cs_len]; exact hz
  have e : (List.range as.length).filterMap out = (as.filter q).map f := range_filter as q f out fun i a ha => by
    show (as[i]?.bind fun a => if q a then some (f a) else none) = _
    rw [ha]; rfl
  rw [show (((cs z).map sg).filter q).map f = (List.range as.length).filterMap out from e.symm]
  refine EV.of (pe_lcStrH (own := [(n, j)]) (g := gName j) (tt := wTb X scope tst) (te := wEb X scope elt) hc nd pe_w (blkOk_by ok) hg (fun _ _ _ _ _ => pts_one pt_wb) (fun _ _ _ _ _ => pe_wb) hf) (EvS.lcG (n := n) (IR := IL rS as) out (fun σ F H l g d R r => ?_) hl (fun b' i y hb hi hy => ?_) (fun b' i y s H0 C cl fp w hb hi hy ho => ?_))
  · refine hi σ F H l g d _ fun v F1 H1 l1 w p _ => ⟨z, p.2, r _ F1 H1 w ?_⟩
    have e2 : as.length = z.cps.size := by show ((cs z).map sg).length = _; rw [List.length_map]; exact Array.length_toList
    rw [e2]
    refine ⟨_, _, walk_str, fun F' H' _ _ => trivial, fun i F' H' v H'' hi _ e3 y => ?_⟩
    obtain ⟨rfl, c, hy, rfl⟩ := y
    exact ⟨F', mk rS (sg c), Gw.refl e3, ⟨sg c, by show ((cs z).map sg)[i]? = _; rw [List.getElem?_map, cs, Array.getElem?_toList, hy]; rfl, rfl⟩, rfl⟩
  · obtain ⟨a, ha, rfl⟩ := hy
    have : (out i).isSome = q a := by
      show (as[i]?.bind fun a => if q a then some (f a) else none).isSome = _
      rw [ha]
      show (if q a then some (f a) else none).isSome = _
      cases q a <;> rfl
    rw [this]
    exact TvS.blk fun s H0 C cl fp => ht b' i a s H0 C cl fp hb ha
  · obtain ⟨a, ha, rfl⟩ := hy
    have ho : (as[i]?.bind fun a => if q a then some (f a) else none) = some w := ho
    rw [ha] at ho
    have ho : (if q a then some (f a) else none) = some w := ho
    cases hq : q a with
    | false => rw [hq] at ho; cases ho
    | true =>
      rw [hq] at ho
      cases ho
      exact he b' i a s H0 C cl fp hb ha hq
theorem _root_.L2H.RoomH.units {k : Nat} {A : Around} (r : RoomH k A) : A.units + 64 < cLine := by have := r.un; omega
theorem _root_.L2H.RoomH.u1 {k : Nat} {A : Around} (r : RoomH k A) : A.units + 1 < cLine := by have := r.un; omega
theorem pe_methH0 {CX : CXT} {C : Addr} {f : Addr} {fd : FuncData} {sp : Sp} {E : L2.St → XK} {ta : TE} {pl : Sem Bool} (he : PE X o ta) (c : Cls X.K C) (hm : Meth X.K C m f) (F : FnH X.prog X.w X.K X.mg X.base CX k f fd ps sp) (hr : RoomH k X.A) (hc : HotC X) (hb : Binds X.K fd ps []) (hx : ∀ σ, PassesAt CX X σ (E σ))
    (ht : eval (.Call (.Attribute o m apos) [] [] pos) X.env = (do
      let ov ← eval o X.env
      standAt apos.atName
      let (f, first) ← holding [ov] (getMethod ov m pl)
      callWith pos f first (backTo pos (starEach [] X.env)) (backToKw pos (keywordEach [] X.env))) := by rfl) : PE X (.Call (.Attribute o m apos) [] [] pos) (tMethX C m sp E ta tNil) := ⟨fun pins s σ H Q I h => by
  refine PySem.W.methodCall_KW (pl := pl) (thn (he.run pins s σ H _ I h) fun u s1 ⟨x, H1, I1, rx, a, dx, fs, ex, ea, l, q⟩ => ?_) ht
  subst ex
  obtain rfl : u = Value.ref a := rx
  exact getmeth_ok I1 ea c hm l (PySem.W.callWith_K0 (first := [.ref a]) I1.kIn hm.kp (run_fnH (us := [.ref a]) (vs := [.ref a]) F hr hc hb (hx σ) I1 (.cons rfl .nil) q))⟩
/-- o.m() there -/
theorem EV.methH0 {R : Rl β} {y : β} {pl : Sem Bool} (T : KnMH X.prog X.w X.K X.mg X.base k CC m ps (spX A pre res)) (hr : RoomH k X.A) (hc : HotC X) (tk : L2N.Takes X W) (ho : EV X b Γ o (im R y)) (hR : ∀ F v, R.r F v y → ∃ a dx fs, v = .ref a ∧ F a = some (.ins CC dx fs) ∧ fs.lookup m = none) (hA : A i = [mk R y]) (hp : pre i) (h1 : res i = .ok s)
    (ht : eval (.Call (.Attribute o m apos) [] [] pos) X.env = (do
      let ov ← eval o X.env
      standAt apos.atName
      let (f, first) ← holding [ov] (getMethod ov m pl)
      callWith pos f first (backTo pos (starEach [] X.env)) (backToKw pos (keywordEach [] X.env))) := by rfl) : EV X b Γ (.Call (.Attribute o m apos) [] [] pos) s := by
  obtain ⟨f, fd, F, hm, hb⟩ := T.ex
  refine EV.of (pe_methH0 pe_w T.cl hm F hr hc hb (fun σ => L2N.passAt tk σ) ht) fun σ F H l g d Q q => ho σ F H l g d _ fun v F1 H1 l1 w ⟨_, hv⟩ _ => ?_
  obtain ⟨a, dx, fs, rfl, ha, hl⟩ := hR F1 v hv
  refine ⟨a, dx, fs, rfl, w.e a _ ha, hl, i, F1, w.e, by rw [hA]; exact .cons hv .nil, hp, fun s' hs v F' H' l' w' p f => ?_, fun C hC H' h => ?_⟩
  · rw [h1] at hs
    cases hs
    exact q v F' H' l' (w.trans w') p fun a ha => ⟨ex_none w.h (f a ha).1, (f a ha).2⟩
  · rw [h1] at hC; cases hC
theorem call_listDH (hc : HotC X) : CallR X (.type "list") (fun xs H Q => ∃ (a : Addr) (kvs : List (Key × V)), xs = [.ref a] ∧ Rd H a (.dK kvs) ∧ ∀ p, H p = none → Q (.ref p) (upd H p (.lst (kvs.map fun kv => kV kv.1)))) := fun pins s σ H xs us Q I r ⟨a, kvs, ex, hd, q⟩ => by
  subst ex
  obtain ⟨u, rfl, rx⟩ := vals1 r
  cases rx
  obtain ⟨z, lo, vs, rel, dd⟩ := dk_rd I.hok hd
  obtain ⟨ep, hat⟩ := dd.dictAt
  obtain ⟨x1, hot⟩ := hc.at I
  have ek : (kvs.map fun kv => kV kv.1) = vs.map fun p => kV p.1 := by
    have e := congrArg (List.map kV) rel.keys
    rwa [List.map_map, List.map_map] at e
  refine list_dict_hot (knd := mixKind X.prog X.w) (kvs := vs) (ep := ep) hot lo hat (by rw [← rel.length]; exact z) fun h' tk acc c hk hD hacc => ?_
  refine ⟨.ref s.heap.objs.size, _, I.laid (t' := tk) (o := .lst (kvs.map fun kv => kV kv.1)) hk (Nat.le_refl _) (show ObjOk X.prog X.w _ _ _ (.lst (kvs.map fun kv => kV kv.1)) from ⟨by rw [List.length_map]; exact z, acc.toList, c, ?_, by rw [Array.toArray_toList]; exact hD⟩), rfl, q _ (I.hok.fresh (Nat.le_refl _))⟩
  rw [ek]
  exact keys_at (by rw [Array.length_toList]; exact hacc.1) fun j v e => hacc.2 j v ((Array.getElem?_toList ..).symm.trans e)
/-- list(d) there -/
theorem EV.listKH {DD : Rl (List (Key × β))} {S : Rl β} {kvs : List (Key × β)} {ns : List Str} (hc : HotC X) (hD : Dic DD S) (ha : AV X b Γ [e] [mk DD kvs]) (hk : ks kvs ns) (hm : X.mg "list" = none) (hg : Gl X "list" := by rfl) (he : starEach [e] X.env = (false, eval e X.env) :: starEach [] X.env := by rfl) : EV X b Γ (.Call (.Name "list" p) [e] [] pos) (ow rS ns) := by
  obtain ⟨ta, p1, p2⟩ := ha
  refine EV.of (pe_callTy (call_listDH hc) hg hm (by decide +kernel) p1 (he := he) (hpl := rfl)) fun σ F H l g d Q q => p2 σ F H l g d _ fun vs F1 H1 w hv => ?_
  obtain ⟨v, rfl, hv2⟩ := ims1 hv
  have hv2 : DD.r F1 v kvs := hv2
  obtain ⟨a, ws, h1, h2, h3⟩ := hD hv2
  refine ⟨a, ws, by rw [h1], rd_ex w.e h2, fun r hr => ?_⟩
  have fr : F1 r = none := ex_none w.e hr
  refine q _ F1 _ [r] (w.trans (Gw.own w.e hr)) ⟨r, _, rfl, rfl, upd_same, all2_keys (by rw [ks, h3.keys]; exact hk) F1⟩ fun c hc => ?_
  rw [List.mem_singleton.mp hc]
  exact ⟨ex_none w.h hr, fr⟩
end
end Lg

namespace Lg
open PySem L2 Evl PyProof.Rows
theorem st_app (x y : Str) : cs (x ++ y) = cs x ++ cs y := by
  show (x.cps ++ y.cps).toList = _
  rw [Array.toList_append]; rfl
theorem em_app (x : Str) : Str.empty ++ x = x := cs_ext (by rw [st_app]; rfl)
theorem app_em (x : Str) : x ++ Str.empty = x := cs_ext (by rw [st_app]; exact List.append_nil _)
theorem All2.era {α : Type} {p : V → α → Prop} : ∀ {vs as} (m : Nat), All2 p vs as → All2 p (vs.eraseIdx m) (as.eraseIdx m)
  | _, _, _, .nil => .nil
  | _, _, 0, .cons _ t => t
  | _, _, m + 1, .cons x t => .cons x (t.era m)
section
variable {X : Cx} {b : Bs} {C : EndC} {Γ : Ctx} {α β γ : Type} {R : Rl α} {S : Rl β} {x : α} {y : β} {z z1 z2 a : Str} {as : List α} {n : Str} {e e1 e2 o : Expr} {es : List Expr} {pos pos' p p2 apos cpos : Pos} {rest : List Stmt}
/-- sep.join(texts) -/
theorem EV.join {L : Rl (List Str)} {ys : List Str} (hL : Lis L rS) (ho : EV X b Γ o (im rS a)) (he : EV X b Γ e (im L ys)) (hz : (ys.map (·.length)).sum + ys.length * a.length ≤ 16777216) (hs : starEach [e] X.env = [(false, eval e X.env)] := by rfl) (hbase : attributeBase o "join" X.env (eval o X.env) = eval o X.env := by rfl) (hline : (apos.endLine == cpos.line) = true := by rfl) :
    EV X b Γ (.Call (.Attribute o "join" apos) [e] [] cpos) (im rS (Str.join a ys)) :=
  EV.of (pe_join pe_w pe_w hs hbase hline) (EvS.mki fun σ F H l g d Q q => ho σ F H l g d _ fun v F1 H1 l1 w1 p1 _ => by
    refine ⟨⟨a, p1.2⟩, he σ F1 H1 l (g.grow w1) (d.grow g.t w1) _ fun u F2 H2 l2 w2 ⟨_, p2⟩ _ => ?_⟩
    obtain ⟨c, xs, rfl, h2, h3⟩ := hL p2
    have hxs := Flat.str.all h3
    subst hxs
    refine ⟨a, c, ys, p1.2, rfl, .inl (sq_ex w2.e h2), hz, q _ F2 H2 (w1.trans w2) ?_⟩
    show V.str _ = V.str _
    rw [TL.join_eq])
/-- text + text -/
theorem EV.addS (ha : EV X b Γ e1 (im rS z1)) (hb : EV X b Γ e2 (im rS z2)) (hz : z1.length + z2.length ≤ 1000000) : EV X b Γ (.BinOp e1 .Add e2 pos) (im rS (z1 ++ z2)) :=
  EV.of (pe_op op_add_str pe_w pe_w) (EvS.op2i ha hb fun F H v w _ h1 h2 Q q => ⟨z1, z2, h1, h2, by rw [sizeLine_eq]; omega, q _ rfl⟩)
/-- text[1:] -/
theorem cutS_from (m : Nat) (h : m ≤ z.length) : cs (cutS z (some (m : Int)) none) = (cs z).drop m := by
  unfold cutS
  show ((((cs z).drop _).take _).toArray).toList = _
  rw [HT.sIx_nat, HT.sIx_none, Nat.min_eq_left h, List.take_of_length_le (by rw [List.length_drop, cs_len]; omega)]
theorem EV.fromS {m : Nat} (ha : EV X b Γ e1 (im rS z)) (hb : EV X b Γ e2 (im rI (m : Int))) (hz : z.length ≤ 1000000) : EV X b Γ (.Subscript e1 (.Slice (some e2) none none p2) pos) (im rS (cutS z (some (m : Int)) none)) :=
  EV.of (pe_slice sl_str pe_w (po_some pe_w) po_none) (EvS.mki fun σ F H l g d Q q => ha σ F H l g d _ fun v F1 H1 l1 w1 p1 _ => hb σ F1 H1 l (g.grow w1) (d.grow g.t w1) _ fun u F2 H2 l2 w2 p2 _ => ⟨(m : Int), p2.2, z, p1.2, by rw [sizeLine_eq]; omega, q _ F2 H2 (w1.trans w2) rfl⟩)
/-- an f-string, told -/
def JX (X : Cx) (b : Bs) (Γ : Ctx) (es : List Expr) (z : Str) : Prop := ∃ ts, PJ X es ts ∧ ∀ σ F H l (acc : Str), SgL F H Γ σ l → Gd b F H l → acc.length + z.length ≤ sizeLine → ∀ Q : Str → Hp → Prop, (∀ F' H', Gw F H F' H' → Q (acc ++ z) H') → tJs ts acc σ H Q
theorem JX.nil : JX X b Γ [] Str.empty := ⟨[], .nil, fun σ F H l acc g d _ Q q => by
  have := q F H (Gw.refl d.e)
  rw [app_em] at this
  exact this⟩
theorem JX.str {j : Nat} (k : JX X b Γ es z2) : JX X b Γ (.Constant (.str z1) j pos :: es) (z1 ++ z2) := by
  obtain ⟨ts, h1, h2⟩ := k
  refine ⟨_, PJ.cons pe_str h1, fun σ F H l acc g d hl Q q => ⟨z1, rfl, ?_, h2 σ F H l _ g d ?_ Q fun F' H' w => ?_⟩⟩
  · rw [str_app_len] at hl ⊢; omega
  · rw [str_app_len] at hl ⊢; omega
  · rw [Str.append_assoc]; exact q F' H' w
theorem JX.txt (h : EV X b Γ e (im rS z1)) (k : JX X b Γ es z2) : JX X b Γ (.FormattedValue e (-1) none pos :: es) (z1 ++ z2) := by
  obtain ⟨ts, h1, h2⟩ := k
  refine ⟨_, PJ.cons (pe_fmt pe_w) h1, fun σ F H l acc g d hl Q q => h σ F H l g d _ fun v F1 H1 l1 w1 p1 _ => ?_⟩
  have hv : v = V.str z1 := p1.2
  subst hv
  rw [str_app_len] at hl
  refine .inl ⟨z1, rfl, by omega, z1, rfl, by rw [str_app_len]; omega, h2 σ F1 H1 l _ (g.grow w1) (d.grow g.t w1) (by rw [str_app_len]; omega) Q fun F' H' w => ?_⟩
  rw [Str.append_assoc]
  exact q F' H' (w1.trans w)
theorem EV.fstrX {v1 v2 : Expr} {more : List Expr} (k : JX X b Γ (v1 :: v2 :: more) z) (hn : z.length ≤ 1000000) : EV X b Γ (.JoinedStr (v1 :: v2 :: more) pos) (im rS z) := by
  obtain ⟨ts, h1, h2⟩ := k
  refine EV.of (pe_joined h1) (EvS.mki fun σ F H l g d Q q => h2 σ F H l Str.empty g d (by show 0 + _ ≤ _; rw [sizeLine_eq]; omega) _ fun F' H' w => ?_)
  rw [em_app]
  exact q _ F' H' w rfl
/-- tuple(l) -/
theorem EV.tupL {L : Rl (List α)} (hL : Lis L R) (ha : EV X b Γ e (im L as)) (hm : X.mg "tuple" = none) (hg : Gl X "tuple" := by rfl) (he : starEach [e] X.env = (false, eval e X.env) :: starEach [] X.env := by rfl) : EV X b Γ (.Call (.Name "tuple" p) [e] [] pos) (im (rT R) as) :=
  EV.of (pe_tupleOf hg hm pe_w he) (EvS.mki fun σ F H l g d Q q => ha σ F H l g d _ fun v F1 H1 l1 w1 ⟨_, h⟩ _ => by
    obtain ⟨c, xs, rfl, h2, h3⟩ := hL h
    exact .inl ⟨c, xs, rfl, sq_ex w1.e h2, fun r hr => q _ _ _ (w1.trans (Gw.new w1.e hr)) ⟨r, xs, rfl, upd_same, h3.imp fun _ _ => R.m (Ex.new (ex_none w1.e hr))⟩⟩)
/-- v = l.pop(e), l one's own -/
theorem HT.setPop {np vp : Pos} {v : Str} {k : Int} {m : Nat} (i j : Nat) (hij : i ≠ j) (hΓ : Γ[i]? = some (some (ow R as))) (he : EV X b Γ e (im rI k)) (hk0 : 0 ≤ k) (hm : k.toNat = m) (hx : as[m]? = some x) (hz : as.length < 100000) (q : HT X b C ((Γ.set i (some (ow R (as.eraseIdx m)))).set j (some (im R x))) rest)
    (nd : X.N.Nodup) (hj : X.N[j]? = some v := by rfl) (hl : Loc X.env.scope v := by first | exact Or.inl rfl | exact Or.inr rfl)
    (hN : X.N[i]? = some n := by rfl) (hv : Vis X.env.scope n := by first | exact Or.inl rfl | exact Or.inr (Or.inl rfl) | exact Or.inr (Or.inr rfl))
    (hd : (n == ("__debug__" : Str)) = false := by decide) (hcd : (n == ("__classdict__" : Str)) = false := by decide) (hse : starEach [e] X.env = (false, eval e X.env) :: starEach [] X.env := by rfl)
    (hbm : ∀ {t : TE} {ta : TA}, PE X (.Name n np) t → PA X [e] ta → PE X (.Call (.Attribute (.Name n np) "pop" apos) [e] [] cpos) (tBM X.K "list" rPopAt t ta) := by exact fun h1 h2 => pe_bm PySem.F.plainAttrs_list PySem.F.slot_list_pop PySem.F.type_list_pop mt_popAt h1 h2)
    (hs : swapsWith (.Call (.Attribute (.Name n np) "pop" apos) [e] [] cpos) (some (.Name v vp)) pos.line X.env = pure false := by rfl)
    (hf : X.fn v = true ∨ X.env.scope.names.lookup v = some .local := by first | exact .inl rfl | exact .inr rfl | assumption) :
    HT X b C Γ (.Assign [.Name v vp] (.Call (.Attribute (.Name n np) "pop" apos) [e] [] cpos) pos :: rest) :=
  HT.step (ps_set nd hj hl (hbm (pe_var hN hv hd hcd) (pa_cons pe_w pa_nil hse)) hs hf) fun σ F H ⟨l, g, d⟩ => by
    obtain ⟨v0, l1, h1, ⟨r, xs, rfl, rfl, h4, h5⟩, h6⟩ := g.get hΓ
    refine ⟨_, h1, Or.inl ⟨rfl, xs, SqL.of h4⟩, he σ F H l g d _ fun u F' H' l' w p1 _ => ?_⟩
    have g' := g.grow w
    have d' := d.grow g.t w
    obtain ⟨r', xs', k1, k2, k3, k4⟩ := Sg.chg (β := α) g' d' hΓ
    rw [h1] at k1
    cases k1
    obtain ⟨y0, hy0, ry0⟩ := k3.get hx
    have hmlt : m < xs'.length := (List.getElem?_eq_some_iff.mp hy0).1
    have er : All2 (R.r F') (xs'.eraseIdx m) (as.eraseIdx m) := k3.era m
    have g3 := k4 (xs'.eraseIdx m) (as.eraseIdx m) R er
    have hlen : xs'.length < 100000 := by rw [k3.len]; exact hz
    refine ⟨r, xs', k, m, y0, rfl, by rw [show u = V.int k from p1.2], k2, by omega, by omega, ?_, hy0, q _ F' _ (Sg.put0 (s := im R x) j g3 ⟨rfl, ry0⟩)⟩
    unfold seqIndex?
    simp
    omega
end
end Lg

/-! dict comprehensions of two clauses: as the library's for lists, with a dict's store at the end of a turn. -/
namespace L2
open PySem PySem.Spec PyProof.Rows
theorem dTurn_a (kx vx t0 i0 t1 i1 : Expr) (ifs0 ifs1 : List Expr) (scope : Scope) (pos : Pos) (it acc : Value) (env : Env) :
    compTurn (.DictComp kx vx [⟨t0, i0, ifs0, 0⟩, ⟨t1, i1, ifs1, 0⟩] scope pos) 0 it acc env = (do
      standAt i0.pos
      match ← pyNext it with
      | none => pure (.done .next)
      | some v =>
        letOwnedTupleGo t0 it v
        assign t0 env v
        let mut ok := true
        for c in ifs0 do
          if ok then ok ← isTrue c env (eval c env)
        if ok then
          let x ← eval i1 env
          standAt i1.pos
          let x ← foldedSetIterable i1 env x
          let _ ← runOwn (.compStart (.DictComp kx vx [⟨t0, i0, ifs0, 0⟩, ⟨t1, i1, ifs1, 0⟩] scope pos) 1 (← holding [x] (pyIter x)) acc env) env
        again (.compLoop (.DictComp kx vx [⟨t0, i0, ifs0, 0⟩, ⟨t1, i1, ifs1, 0⟩] scope pos) 0 it acc env)) := by rfl
theorem dTurn_b (kx vx t0 i0 t1 i1 : Expr) (ifs0 ifs1 : List Expr) (scope : Scope) (pos : Pos) (it : Value) (D : Addr) (env : Env) :
    compTurn (.DictComp kx vx [⟨t0, i0, ifs0, 0⟩, ⟨t1, i1, ifs1, 0⟩] scope pos) 1 it (.ref D) env = (do
      standAt i1.pos
      match ← pyNext it with
      | none => pure (.done .next)
      | some v =>
        letOwnedTupleGo t1 it v
        assign t1 env v
        let mut ok := true
        for c in ifs1 do
          if ok then ok ← isTrue c env (eval c env)
        if ok then
          (do
            let kv ← eval kx env
            let vv ← holding [kv] (eval vx env)
            standAt { kx.pos with endLine := vx.pos.endLine, endCol := vx.pos.endCol }
            holding [kv, vv] (dictSet D kv vv))
        again (.compLoop (.DictComp kx vx [⟨t0, i0, ifs0, 0⟩, ⟨t1, i1, ifs1, 0⟩] scope pos) 1 it (.ref D) env)) := by rfl

section
variable {prog : Program} {w : World} {A : Around} {R : Result → Shared → Prop} {s : Shared} {kx vx t0 i0 t1 i1 : Expr} {ifs0 ifs1 : List Expr} {scope : Scope} {pos : Pos} {it acc : Value} {D : Addr} {env : Env}
theorem dLoop_a (hs : ∀ x, foldedSetIterable i1 env x = pure x) (I : Nat → Shared → Prop)
    (turn : ∀ n s, I n s → wpAny (model prog w) A (pyNext it) (fun r t₁ => match r with
      | none => R (.ok .next) t₁
      | some v => wpAny (model prog w) A (letOwnedTupleGo t0 it v) (fun _ t₁' => wpAny (model prog w) A (assign t0 env v) (fun _ t₂ =>
          wpAny (model prog w) A (forIn ifs0 true fun c r => if r = true then do let ok ← isTrue c env (eval c env); pure (ForInStep.yield ok) else pure (ForInStep.yield r)) (fun ok t₃ =>
            if ok = true then wpAny (model prog w) A (eval i1 env) (fun x t₄ => wpAny (model prog w) A (pyIter x) (fun it1 t₅ =>
              codeAny (model prog w) A (.compStart (.DictComp kx vx [⟨t0, i0, ifs0, 0⟩, ⟨t1, i1, ifs1, 0⟩] scope pos) 1 it1 acc env) (fun r s' => match r with
                | .ok _ => ∃ m, m < n ∧ I m s'
                | .error _ => False) t₅) (notedBy (model prog w) A env fun e s' => R (.error e) s') t₄) (notedBy (model prog w) A env fun e s' => R (.error e) s') t₃
            else ∃ m, m < n ∧ I m t₃) (notedBy (model prog w) A env fun e s' => R (.error e) s') t₂) (notedBy (model prog w) A env fun e s' => R (.error e) s') t₁') (notedBy (model prog w) A env fun e s' => R (.error e) s') t₁) (notedBy (model prog w) A env fun e s' => R (.error e) s') s)
    (n : Nat) (h : I n s) :
    codeAny (model prog w) A (.compLoop (.DictComp kx vx [⟨t0, i0, ifs0, 0⟩, ⟨t1, i1, ifs1, 0⟩] scope pos) 0 it acc env) R s := by
  refine codeAny_loop rfl I (fun n s hI => ?_) n h
  show wpAny _ A ((compTurn (.DictComp kx vx [⟨t0, i0, ifs0, 0⟩, ⟨t1, i1, ifs1, 0⟩] scope pos) 0 it acc env).onRaise (fun x => do noteFrame x env; theTreesLotGoes x)) _ _ s
  refine wpAny_noted ?_
  rw [dTurn_a]
  refine wpAny_bind (wpAny_standAt (wpAny_bind (wpAny_mono (turn n s hI) (fun r t₁ k₁ => ?_) fun _ _ h' => h')))
  cases r with
  | none => exact wpAny_pure k₁
  | some v =>
    refine wpAny_bind (wpAny_mono k₁ (fun _ t₁' k₁' => ?_) fun _ _ h' => h')
    refine wpAny_bind (wpAny_mono k₁' (fun _ t₂ k₂ => wpAny_bind (wpAny_mono k₂ (fun ok t₃ k₃ => ?_) fun _ _ h' => h')) fun _ _ h' => h')
    cases ok with
    | false => exact wpAny_pure ⟨rfl, k₃⟩
    | true =>
      refine wpAny_bind (wpAny_mono k₃ (fun x t₄ k₄ => ?_) fun _ _ h' => h')
      refine wpAny_bind (wpAny_standAt (wpAny_bind (wpAny_of_eq (hs x) (wpAny_bind (wpAny_holding (wpAny_mono k₄ (fun it1 t₅ k₅ => ?_) fun _ _ h' => h'))))))
      refine wpAny_bind (wpAny_runOwn ?_)
      rw [Around.mark_none]
      refine codeAny_mono k₅ fun r s' hr => ?_
      cases r with
      | ok f =>
        first
          | exact wpAny_pure ⟨rfl, hr⟩
          | exact wpAny_bind (wpAny_pure (wpAny_pure ⟨rfl, hr⟩))
      | error e => exact hr.elim
theorem dLoop_b (I : Nat → Shared → Prop)
    (turn : ∀ n s, I n s → wpAny (model prog w) A (pyNext it) (fun r t₁ => match r with
      | none => R (.ok .next) t₁
      | some v => wpAny (model prog w) A (letOwnedTupleGo t1 it v) (fun _ t₁' => wpAny (model prog w) A (assign t1 env v) (fun _ t₂ =>
          wpAny (model prog w) A (forIn ifs1 true fun c r => if r = true then do let ok ← isTrue c env (eval c env); pure (ForInStep.yield ok) else pure (ForInStep.yield r)) (fun ok t₃ =>
            if ok = true then wpAny (model prog w) A (eval kx env) (fun kv t₄ => wpAny (model prog w) A (eval vx env) (fun vv t₅ =>
              wpAny (model prog w) A (dictSet D kv vv) (fun _ t₆ => ∃ m, m < n ∧ I m t₆) (notedBy (model prog w) A env fun e s' => R (.error e) s') t₅) (notedBy (model prog w) A env fun e s' => R (.error e) s') t₄) (notedBy (model prog w) A env fun e s' => R (.error e) s') t₃
            else ∃ m, m < n ∧ I m t₃) (notedBy (model prog w) A env fun e s' => R (.error e) s') t₂) (notedBy (model prog w) A env fun e s' => R (.error e) s') t₁') (notedBy (model prog w) A env fun e s' => R (.error e) s') t₁) (notedBy (model prog w) A env fun e s' => R (.error e) s') s)
    (n : Nat) (h : I n s) :
    codeAny (model prog w) A (.compLoop (.DictComp kx vx [⟨t0, i0, ifs0, 0⟩, ⟨t1, i1, ifs1, 0⟩] scope pos) 1 it (.ref D) env) R s := by
  refine codeAny_loop rfl I (fun n s hI => ?_) n h
  show wpAny _ A ((compTurn (.DictComp kx vx [⟨t0, i0, ifs0, 0⟩, ⟨t1, i1, ifs1, 0⟩] scope pos) 1 it (.ref D) env).onRaise (fun x => do noteFrame x env; theTreesLotGoes x)) _ _ s
  refine wpAny_noted ?_
  rw [dTurn_b]
  refine wpAny_bind (wpAny_standAt (wpAny_bind (wpAny_mono (turn n s hI) (fun r t₁ k₁ => ?_) fun _ _ h' => h')))
  cases r with
  | none => exact wpAny_pure k₁
  | some v =>
    refine wpAny_bind (wpAny_mono k₁ (fun _ t₁' k₁' => ?_) fun _ _ h' => h')
    refine wpAny_bind (wpAny_mono k₁' (fun _ t₂ k₂ => wpAny_bind (wpAny_mono k₂ (fun ok t₃ k₃ => ?_) fun _ _ h' => h')) fun _ _ h' => h')
    cases ok with
    | false => exact wpAny_pure ⟨rfl, k₃⟩
    | true =>
      exact wpAny_bind (wpAny_bind (wpAny_mono k₃ (fun kv t₄ k₄ => wpAny_bind (wpAny_holding (wpAny_mono k₄ (fun vv t₅ k₅ => wpAny_bind (wpAny_standAt (wpAny_holding (wpAny_mono k₅ (fun _ t₆ k₆ => wpAny_pure ⟨rfl, k₆⟩) fun _ _ h' => h')))) fun _ _ h' => h'))) fun _ _ h' => h'))
theorem dStart_b (h0 : codeAny (model prog w) A (.compLoop (.DictComp kx vx [⟨t0, i0, ifs0, 0⟩, ⟨t1, i1, ifs1, 0⟩] scope pos) 1 it acc env) R s)
    (h : wpAny (model prog w) A (pyIter it) (fun it' s' => codeAny (model prog w) A (.compLoop (.DictComp kx vx [⟨t0, i0, ifs0, 0⟩, ⟨t1, i1, ifs1, 0⟩] scope pos) 1 it' acc env) R s')
      (notedBy (model prog w) A env fun x s' => R (.error x) s') s) :
    codeAny (model prog w) A (.compStart (.DictComp kx vx [⟨t0, i0, ifs0, 0⟩, ⟨t1, i1, ifs1, 0⟩] scope pos) 1 it acc env) R s := by
  refine codeAny_of_tree ?_
  show wpAny _ _ ((compStart (.DictComp kx vx [⟨t0, i0, ifs0, 0⟩, ⟨t1, i1, ifs1, 0⟩] scope pos) 1 it acc env).onRaise (fun x => do noteFrame x env; standAt theWindowsPlace)) _ _ s
  refine wpAny_notedAt ?_
  unfold compStart
  show wpAny _ _ (ask >>= _) _ _ s
  refine wpAny_bind (wpAny_askSetting (wpAny_ite ?_))
  split
  · first
      | exact wpAny_bind (wpAny_pure (wpAny_pure (And.intro rfl h0)))
      | exact wpAny_pure (And.intro rfl h0)
  · first
      | exact wpAny_bind (wpAny_rule (wpAny_bind (wpAny_standAt (wpAny_bind (wpAny_mono h (fun it' s' h' => wpAny_pure (And.intro rfl h')) fun _ _ x => x)))))
      | (refine wpAny_bind (wpAny_rule ?_); show wpAny _ _ (standAt i1.pos >>= _) _ _ s; exact wpAny_bind (wpAny_standAt (wpAny_bind (wpAny_mono h (fun it' s' h' => wpAny_pure (And.intro rfl h')) fun _ _ x => x))))
end

section
variable {X : Cx}
def tDc2 (wi : TI) (g : TG) (tt : TT) (wi1 : TI) (g1 : TG) (tt1 : TT) (tk tv : TE) (vs vs1 : List Nat) : TE := fun σ H Q => wi σ H fun J H1 => ∀ D, H1 D = none → ∃ W : Nat → Nat → Hp → Prop, (∃ m, W 0 m (upd H1 D (.dK []))) ∧ ∀ i m H, W i m H →
  (J.stop i H ∧ Q (.ref D) H) ∨ (J.go i H ∧ ∃ Nx : Hp → Prop, (∀ H', Nx H' → ∃ m', m' < m ∧ W (i + 1) m' H') ∧ ∀ x H', J.yld i H x H' → g x (wipe σ vs) H' fun σ2 H2 => wipe σ2 vs = wipe σ vs ∧ tt σ2 H2 fun b H3 =>
    if b = true then wi1 σ2 H3 fun J1 H4 => ∃ W1 : Nat → Nat → Hp → Prop, (∃ m, W1 0 m H4) ∧ ∀ j k H, W1 j k H →
      (J1.stop j H ∧ Nx H) ∨ (J1.go j H ∧ ∃ Nx1 : Hp → Prop, (∀ H', Nx1 H' → ∃ k', k' < k ∧ W1 (j + 1) k' H') ∧ ∀ x H', J1.yld j H x H' → g1 x (wipe σ2 vs1) H' fun σ3 H5 => wipe σ3 vs1 = wipe σ2 vs1 ∧ tt1 σ3 H5 fun b H6 =>
        if b = true then tk σ3 H6 fun y H7 => tv σ3 H7 fun z H8 => ∃ kvs k, y = kV k ∧ H8 D = some (.dK kvs) ∧ kvs.length < sizeLine ∧ Nx1 (upd H8 D (.dK (putK kvs k z))) else Nx1 H6)
    else Nx H3)
theorem dc2_core {pins : List (Addr × Obj)} {s : Shared} {σ : St} {H : Hp} {Q : VK} {kx vx tg iter tg1 iter1 : Expr} {ifs ifs1 : List Expr} {scope : Scope} {own : List (Str × Nat)} {vs1 : List Nat} {pos pos' : Pos} {wi wi1 : TI} {g g1 : TG} {tt tt1 : TT} {tk tv : TE} {use : Option (Value → Sem Unit)} {Qf : Value → Shared → Prop}
    (hc : X.calm = true) (hN : X.N.Nodup) (I : Inv X pins σ H s) (hi : PI X tg iter wi) (ok : BlkOk X.N X.env.scope scope own) (hv : ∀ i ∈ vs1, i ∈ own.map (·.2))
    (hg : ∀ (s : Shared) (H : Hp) (C : Addr) (cl : List (Str × Addr)) (fp : List Addr), PG (X.blk s H scope (compEnvC scope cl C X.env) fp) tg g) (ht : ∀ (s : Shared) (H : Hp) (C : Addr) (cl : List (Str × Addr)) (fp : List Addr), PTs (X.blk s H scope (compEnvC scope cl C X.env) fp) ifs tt)
    (hk : ∀ (s : Shared) (H : Hp) (C : Addr) (cl : List (Str × Addr)) (fp : List Addr), PE (X.blk s H scope (compEnvC scope cl C X.env) fp) kx tk) (he : ∀ (s : Shared) (H : Hp) (C : Addr) (cl : List (Str × Addr)) (fp : List Addr), PE (X.blk s H scope (compEnvC scope cl C X.env) fp) vx tv) (hs : ∀ x, foldedSetIterable iter X.env x = pure x)
    (hi1 : ∀ (s : Shared) (H : Hp) (C : Addr) (cl : List (Str × Addr)) (fp : List Addr), PI (X.blk s H scope (compEnvC scope cl C X.env) fp) tg1 iter1 wi1)
    (hg1 : ∀ (s : Shared) (H : Hp) (C : Addr) (cl : List (Str × Addr)) (fp : List Addr), PG (X.blk s H scope (compEnvC scope cl C X.env) fp) tg1 g1)
    (ht1 : ∀ (s : Shared) (H : Hp) (C : Addr) (cl : List (Str × Addr)) (fp : List Addr), PTs (X.blk s H scope (compEnvC scope cl C X.env) fp) ifs1 tt1)
    (hs1 : ∀ env x, foldedSetIterable iter1 env x = pure x)
    (h : tDc2 wi g tt wi1 g1 tt1 tk tv (own.map (·.2)) vs1 σ H Q)
    (hRR : ∀ D C s' m H', Inv X pins σ H' s' → Q (.ref D) H' → s'.heap.Ns C m → FpOk X pins H' C → compPost (model X.prog X.w) X.A X.xe use Qf (.ref D) C (.ok .next) s') :
    wpAny (model X.prog X.w) X.A (comprehension (.DictComp kx vx [⟨tg, iter, ifs, 0⟩, ⟨tg1, iter1, ifs1, 0⟩] scope pos) scope X.env pos' newDict false (eval iter X.env) use) Qf X.xe s := by
  have hfree : ∀ y ∈ scope.names, y.2 = .free → ∃ c, X.env.cells.lookup y.1 = some c := fun y hy e => by
    rcases ok.free y hy e with k | k
    · exact I.ok.has _ (.inl k)
    · exact I.ok.has _ (.inr k)
  refine wpAny_comprehension_free (use := use) rfl hs (closure_ok hfree) ok.kind (fun y hy e => by rw [ok.uniq y hy, e])
    (thn (hi.run pins s σ H _ I h) fun xv u1 hx => thn hx fun itv u2 h2 => ?_)
  obtain ⟨it, fp, tn, J, H2, e, J2, T, st2, f2, q⟩ := h2
  subst e
  refine wpAny_newObj_type (newEnv_comp ?_)
  generalize hD : u2.heap.objs.size = D
  have hDn : H2 D = none := J2.hok.fresh (Nat.le_of_eq hD)
  obtain ⟨W, ⟨m0, w0⟩, turn⟩ := q D hDn
  -- the new list
  generalize hs3 : ({ u2 with heap := u2.heap.push { cls := .type "dict", data := .dict #[] } } : Shared) = u3
  have J3 : Inv X pins σ (upd H2 D (.dK [])) u3 := by
    rw [← hs3]
    refine J2.laid (t' := u2.toks) (fun b o e => Heap.get?_push_of_some _ e) (Nat.le_of_eq hD) ?_
    rw [← hD]
    exact dk_empty u2.heap J2.big
  have h3 : u3.heap = u2.heap.push { cls := .type "dict", data := .dict #[] } := by rw [← hs3]
  have sz : ∀ b ∈ fp, b < u2.heap.objs.size := fun b hb => by
    obtain ⟨o, e, _⟩ := T.obj _ _ st2 b hb
    exact Heap.lt_size e
  have f3 : ∀ b ∈ fp, FpOk X pins (upd H2 D (.dK [])) b ∧ b < u3.heap.objs.size := fun b hb => by
    have hlt := sz b hb
    refine ⟨⟨?_, (f2 b hb).2⟩, by rw [h3, Heap.size_push]; exact Nat.lt_succ_of_lt hlt⟩
    rw [upd_ne (by rw [← hD]; exact Nat.ne_of_lt hlt)]
    exact (f2 b hb).1
  have st3 : tn 0 u3.heap := T.keep _ _ _ st2 fun b _ o e => by rw [h3]; exact Heap.get?_push_of_some _ e
  have J4 := block_start J3 ok hN f3
  have pg := hg u3 (upd H2 D (.dK [])) u3.heap.objs.size (cellsFrom (u3.heap.objs.size + 1) scope.names (cloFrom X.env.cells scope.names [])) fp
  have pt := ht u3 (upd H2 D (.dK [])) u3.heap.objs.size (cellsFrom (u3.heap.objs.size + 1) scope.names (cloFrom X.env.cells scope.names [])) fp
  have pk := hk u3 (upd H2 D (.dK [])) u3.heap.objs.size (cellsFrom (u3.heap.objs.size + 1) scope.names (cloFrom X.env.cells scope.names [])) fp
  have pe := he u3 (upd H2 D (.dK [])) u3.heap.objs.size (cellsFrom (u3.heap.objs.size + 1) scope.names (cloFrom X.env.cells scope.names [])) fp
  have pi1 := hi1 u3 (upd H2 D (.dK [])) u3.heap.objs.size (cellsFrom (u3.heap.objs.size + 1) scope.names (cloFrom X.env.cells scope.names [])) fp
  have pg1 := hg1 u3 (upd H2 D (.dK [])) u3.heap.objs.size (cellsFrom (u3.heap.objs.size + 1) scope.names (cloFrom X.env.cells scope.names [])) fp
  have pt1 := ht1 u3 (upd H2 D (.dK [])) u3.heap.objs.size (cellsFrom (u3.heap.objs.size + 1) scope.names (cloFrom X.env.cells scope.names [])) fp
  show codeAny _ _ (.compStart (.DictComp kx vx [⟨tg, iter, ifs, 0⟩, ⟨tg1, iter1, ifs1, 0⟩] scope pos) 0 (.ref it) (.ref D) (compEnvC scope (cellsFrom (u3.heap.objs.size + 1) scope.names (cloFrom X.env.cells scope.names [])) u3.heap.objs.size X.env)) (compPost (model X.prog X.w) X.A X.xe use Qf (.ref D) u3.heap.objs.size) { u3 with heap := pushCells (u3.heap.push { cls := .type "dict", data := .dict #[] }) scope.names }
  have nfp : ∀ b ∈ fp, (upd H2 D (.dK [])) b = none := fun b hb => (f3 b hb).1.1
  generalize hce : compEnvC scope (cellsFrom (u3.heap.objs.size + 1) scope.names (cloFrom X.env.cells scope.names [])) u3.heap.objs.size X.env = ce at J4 pg pt pk pe pi1 pg1 pt1 ⊢
  have cL : ce.locals = u3.heap.objs.size := by subst hce; rfl
  generalize hH3 : upd H2 D (.dK []) = H3 at J3 J4 pg pt pk pe pi1 pg1 pt1 w0 nfp f3
  generalize hs4 : ({ u3 with heap := pushCells (u3.heap.push { cls := .type "dict", data := .dict #[] }) scope.names } : Shared) = u4 at J4 ⊢
  have st4 : tn 0 u4.heap := T.keep _ _ _ st3 fun b _ o e => by rw [← hs4]; exact pushCells_keeps _ _ _ _ (Heap.get?_push_of_some _ e)
  have stat : ∀ {σ' : St} {H' : Hp} {s' : Shared}, Inv (X.blk u3 H3 scope ce fp) [] σ' H' s' → (∀ b ∈ fp, H' b = none) → ∀ b ∈ fp, FpOk (X.blk u3 H3 scope ce fp) [] H' b := fun {σ' H' s'} I' hn b hb =>
    ⟨hn b hb, (I'.ok.exf b hb).1, I'.ok.exfs b hb, .inl hb, fun x c e => (I'.ok.exf b hb).2 x c e, fun p hp => absurd (show p ∈ ([] : List (Addr × Obj)) ++ [] from hp) (by simp)⟩
  have loop : codeAny (model X.prog X.w) X.A (.compLoop (.DictComp kx vx [⟨tg, iter, ifs, 0⟩, ⟨tg1, iter1, ifs1, 0⟩] scope pos) 0 (.ref it) (.ref D) ce) (compPost (model X.prog X.w) X.A X.xe use Qf (.ref D) u3.heap.objs.size) u4 := by
    refine dLoop_a (hs1 ce) (fun n s' => ∃ i H', Inv (X.blk u3 H3 scope ce fp) [] (wipe σ (own.map (·.2))) H' s' ∧ tn i s'.heap ∧ (∀ b ∈ fp, H' b = none) ∧ W i n H') ?_ m0 ⟨0, H3, J4, st4, nfp, w0⟩
    rintro n u5 ⟨i, H5, J5, st5, n5, w5⟩
    rcases turn i n H5 w5 with ⟨stop, qq⟩ | ⟨go, Nx, hNx, step⟩
    · have td := T.done (X.blk u3 H3 scope ce fp) rfl rfl rfl hc i [] u5 _ H5 (fun _ _ => False) J5 (stat J5 n5) st5 stop
      refine thnF td fun r u6 ⟨hr, J6⟩ => ?_
      subst hr
      -- back in the def's context
      have J7 : Inv X pins σ H5 u6 := J3.call' (ch := fp) J6.os J6.base J6.hok J6.bare fun b hb => ⟨(f3 b hb).1.2.2.2.1, (f3 b hb).1.2.1, (f3 b hb).1.2.2.2.2.1, (f3 b hb).1.2.2.2.2.2⟩
      have nC : H5 u3.heap.objs.size = none := by
        have z : H5 ce.locals = none := J6.free
        rw [cL] at z
        exact z
      obtain ⟨m, hn, _⟩ := J6.loc
      have hn : u6.heap.Ns ce.locals m := hn
      rw [cL] at hn
      exact hRR D u3.heap.objs.size u6 m H5 J7 qq hn (J3.fpOk (Nat.le_refl _) nC)
    · have ti := T.item (X.blk u3 H3 scope ce fp) rfl rfl rfl hc i [] u5 _ H5 (fun _ _ => False) J5 (stat J5 n5) st5 go
      refine thnF ti fun r u6 ⟨u, hr, h6⟩ => ?_
      subst hr
      refine thnF h6 fun _ u7 ⟨x, H7, J7, r7, y7, st7, n7⟩ => ?_
      have J7' := J7.pinned (stat J7 n7) (T.obj _ _ st7)
      refine thnF (pg.run _ u7 _ H7 x u _ J7' r7 (step x H7 y7)) fun _ u8 ⟨σ8, H8, J8, hw8, q8⟩ => ?_
      refine thnF (pt.run _ u8 σ8 H8 _ J8 q8) fun b u9 ⟨H9, J9, q9⟩ => ?_
      -- the turn's end, from any slots that know what the block knew at its start
      have fin : ∀ {σ9 : St} {s' : Shared} {H' : Hp}, Inv (X.blk u3 H3 scope ce fp) ([] ++ pinsAt fp u7.heap) σ9 H' s' → (wipe σ (own.map (·.2))).length = σ9.length → (∀ (j : Nat) v, (wipe σ (own.map (·.2)))[j]? = some (some v) → σ9[j]? = some (some v)) → Nx H' →
          ∃ m, m < n ∧ ∃ i H', Inv (X.blk u3 H3 scope ce fp) [] (wipe σ (own.map (·.2))) H' s' ∧ tn i s'.heap ∧ (∀ b ∈ fp, H' b = none) ∧ W i m H' := fun {σ9 s' H'} I' hl hk nx => by
        obtain ⟨m', hm, w'⟩ := hNx H' nx
        have pin' : ∀ b ∈ fp, ∀ o, u7.heap.get? b = some o → s'.heap.get? b = some o ∧ H' b = none := fun b hb o e =>
          let z := I'.pin (b, o) (List.mem_append_right _ (List.mem_append_right _ (mem_pinsAt hb e)))
          ⟨z.1, z.2.1⟩
        refine ⟨m', hm, i + 1, H', (I'.unpinned (pins := [])).weak hl hk, T.keep _ _ _ st7 fun b hb o e => (pin' b hb o e).1, fun b hb => ?_, w'⟩
        obtain ⟨o, e, _⟩ := T.obj _ _ st7 b hb
        exact (pin' b hb o e).2
      have hl8 : (wipe σ (own.map (·.2))).length = σ8.length := by rw [← hw8, wipe_length]
      have hk8 : ∀ (j : Nat) v, (wipe σ (own.map (·.2)))[j]? = some (some v) → σ8[j]? = some (some v) := fun j v e => by
        rw [← hw8] at e
        exact (wipe_some e).1
      have hk9 : ∀ (j : Nat) v, (wipe σ (own.map (·.2)))[j]? = some (some v) → (wipe σ8 vs1)[j]? = some (some v) := fun j v e => by
        rw [← hw8] at e
        obtain ⟨e1, e2⟩ := wipe_some e
        rw [wipe_out fun z => e2 (hv j z)]
        exact e1
      cases b with
      | false =>
        simp only [Bool.false_eq_true, if_false] at q9 ⊢
        exact fin J9 hl8 hk8 q9
      | true =>
        simp only [if_true] at q9 ⊢
        refine thnF (pi1.run _ u9 σ8 H9 _ J9 q9) fun xv u10 hx => thnF hx fun itv u11 h11 => ?_
        obtain ⟨it1, fp1, tn1, J1, H11, e1, J11, T1, st11, f11, W1, ⟨m1, w1⟩, turn1⟩ := h11
        subst e1
        -- the inner loop
        have stat1 : ∀ {H' : Hp}, (∀ b ∈ fp1, H' b = none) → ∀ b ∈ fp1, FpOk (X.blk u3 H3 scope ce fp) ([] ++ pinsAt fp u7.heap) H' b := fun hn b hb => ⟨hn b hb, (f11 b hb).2⟩
        have loop1 : codeAny (model X.prog X.w) X.A (.compLoop (.DictComp kx vx [⟨tg, iter, ifs, 0⟩, ⟨tg1, iter1, ifs1, 0⟩] scope pos) 1 (.ref it1) (.ref D) ce)
            (fun r s' => match r with
              | .ok _ => ∃ m, m < n ∧ ∃ i H', Inv (X.blk u3 H3 scope ce fp) [] (wipe σ (own.map (·.2))) H' s' ∧ tn i s'.heap ∧ (∀ b ∈ fp, H' b = none) ∧ W i m H'
              | .error _ => False) u11 := by
          refine dLoop_b (fun k s' => ∃ j H', Inv (X.blk u3 H3 scope ce fp) ([] ++ pinsAt fp u7.heap) (wipe σ8 vs1) H' s' ∧ tn1 j s'.heap ∧ (∀ b ∈ fp1, H' b = none) ∧ W1 j k H') ?_ m1 ⟨0, H11, J11.weak (wipe_length _ _) (fun j v e => (wipe_some e).1), st11, fun b hb => (f11 b hb).1, w1⟩
          rintro k u12 ⟨j, H12, J12, st12, n12, w12⟩
          rcases turn1 j k H12 w12 with ⟨stop1, nx1⟩ | ⟨go1, Nx1, hNx1, step1⟩
          · refine thnF (T1.done (X.blk u3 H3 scope ce fp) rfl rfl rfl hc j _ u12 (wipe σ8 vs1) H12 (fun _ _ => False) J12 (stat1 n12) st12 stop1) fun r u13 ⟨hr, J13⟩ => ?_
            subst hr
            exact fin J13 (hl8.trans (wipe_length σ8 vs1).symm) hk9 nx1
          · refine thnF (T1.item (X.blk u3 H3 scope ce fp) rfl rfl rfl hc j _ u12 (wipe σ8 vs1) H12 (fun _ _ => False) J12 (stat1 n12) st12 go1) fun r u13 ⟨u1, hr, h13⟩ => ?_
            subst hr
            refine thnF h13 fun _ u14 ⟨x1, H14, J14, r14, y14, st14, n14⟩ => ?_
            have J14' := J14.pinned (stat1 n14) (T1.obj _ _ st14)
            refine thnF (pg1.run _ u14 (wipe σ8 vs1) H14 x1 u1 _ J14' r14 (step1 x1 H14 y14)) fun _ u15 ⟨σ15, H15, J15, hw15, q15⟩ => ?_
            refine thnF (pt1.run _ u15 σ15 H15 _ J15 q15) fun b1 u16 ⟨H16, J16, q16⟩ => ?_
            have fin1 : ∀ {s' : Shared} {H' : Hp}, Inv (X.blk u3 H3 scope ce fp) (([] ++ pinsAt fp u7.heap) ++ pinsAt fp1 u14.heap) σ15 H' s' → Nx1 H' → ∃ m, m < k ∧ ∃ j H', Inv (X.blk u3 H3 scope ce fp) ([] ++ pinsAt fp u7.heap) (wipe σ8 vs1) H' s' ∧ tn1 j s'.heap ∧ (∀ b ∈ fp1, H' b = none) ∧ W1 j m H' := fun {s' H'} I' nx => by
              obtain ⟨m', hm, w'⟩ := hNx1 H' nx
              have pin' : ∀ b ∈ fp1, ∀ o, u14.heap.get? b = some o → s'.heap.get? b = some o ∧ H' b = none := fun b hb o e =>
                let z := I'.pin (b, o) (List.mem_append_right _ (List.mem_append_right _ (mem_pinsAt hb e)))
                ⟨z.1, z.2.1⟩
              refine ⟨m', hm, j + 1, H', I'.unpinned.weak (by rw [← hw15, wipe_length]) (fun j v e => by rw [← hw15] at e; exact (wipe_some e).1), T1.keep _ _ _ st14 fun b hb o e => (pin' b hb o e).1, fun b hb => ?_, w'⟩
              obtain ⟨o, e, _⟩ := T1.obj _ _ st14 b hb
              exact (pin' b hb o e).2
            cases b1 with
            | false =>
              simp only [Bool.false_eq_true, if_false] at q16 ⊢
              exact fin1 J16 q16
            | true =>
              simp only [if_true] at q16 ⊢
              refine thnF (pk.run _ u16 σ15 H16 _ J16 q16) fun z u17 ⟨yk, H17, J17, r17, q17⟩ => ?_
              refine thnF (pe.run _ u17 σ15 H17 _ J17 q17) fun z2 u18 ⟨yv, H18, J18, r18, kvs, k, ek, hD18, hz18, nx⟩ => ?_
              subst ek
              exact d_dictSet (X := X.blk u3 H3 scope ce fp) J18 hD18 hz18 r17 r18 fun u19 I19 => fin1 I19 nx
        exact dStart_b loop1 (T1.self X.A 0 _ _ _ st11 loop1)
  exact codeAny_compStart_dict loop (T.self X.A 0 _ _ _ st4 loop)
theorem pe_dc2 {kx vx tg iter tg1 iter1 : Expr} {ifs ifs1 : List Expr} {scope : Scope} {own : List (Str × Nat)} {vs1 : List Nat} {pos : Pos} {wi wi1 : TI} {g g1 : TG} {tt tt1 : TT} {tk tv : TE} (hc : X.calm = true) (hN : X.N.Nodup) (hi : PI X tg iter wi) (ok : BlkOk X.N X.env.scope scope own) (hv : ∀ i ∈ vs1, i ∈ own.map (·.2))
    (hg : ∀ (s : Shared) (H : Hp) (C : Addr) (cl : List (Str × Addr)) (fp : List Addr), PG (X.blk s H scope (compEnvC scope cl C X.env) fp) tg g) (ht : ∀ (s : Shared) (H : Hp) (C : Addr) (cl : List (Str × Addr)) (fp : List Addr), PTs (X.blk s H scope (compEnvC scope cl C X.env) fp) ifs tt)
    (hi1 : ∀ (s : Shared) (H : Hp) (C : Addr) (cl : List (Str × Addr)) (fp : List Addr), PI (X.blk s H scope (compEnvC scope cl C X.env) fp) tg1 iter1 wi1)
    (hg1 : ∀ (s : Shared) (H : Hp) (C : Addr) (cl : List (Str × Addr)) (fp : List Addr), PG (X.blk s H scope (compEnvC scope cl C X.env) fp) tg1 g1) (ht1 : ∀ (s : Shared) (H : Hp) (C : Addr) (cl : List (Str × Addr)) (fp : List Addr), PTs (X.blk s H scope (compEnvC scope cl C X.env) fp) ifs1 tt1)
    (hk : ∀ (s : Shared) (H : Hp) (C : Addr) (cl : List (Str × Addr)) (fp : List Addr), PE (X.blk s H scope (compEnvC scope cl C X.env) fp) kx tk) (he : ∀ (s : Shared) (H : Hp) (C : Addr) (cl : List (Str × Addr)) (fp : List Addr), PE (X.blk s H scope (compEnvC scope cl C X.env) fp) vx tv) (hs : ∀ x, foldedSetIterable iter X.env x = pure x := by intro _; rfl) (hs1 : ∀ env x, foldedSetIterable iter1 env x = pure x := by intro _ _; rfl) :
    PE X (.DictComp kx vx [⟨tg, iter, ifs, 0⟩, ⟨tg1, iter1, ifs1, 0⟩] scope pos) (tDc2 wi g tt wi1 g1 tt1 tk tv (own.map (·.2)) vs1) := by
  refine ⟨fun pins s σ H Q I h => ?_⟩
  rw [arm_eval_DictComp]
  refine dc2_core hc hN I hi ok hv hg ht hk he hs hi1 hg1 ht1 hs1 h fun D C s' m H' I' q hn f => ⟨m, hn, fun h'' sb => ?_⟩
  obtain ⟨f0, f1, f2, f3, f4, f5⟩ := f
  exact ⟨.ref D, H', I'.turned (t' := s'.toks) (fun b o hb e => (sb.2 b hb).trans e) f0 f1 f3 f4 f5, rfl, q⟩
theorem ps_setDc2 {i : Nat} {y : Str} {py : Pos} {kx vx tg iter tg1 iter1 : Expr} {ifs ifs1 : List Expr} {scope : Scope} {own : List (Str × Nat)} {vs1 : List Nat} {pos spos : Pos} {wi wi1 : TI} {g g1 : TG} {tt tt1 : TT} {tk tv : TE} (hc : X.calm = true) (hN : X.N.Nodup) (hy : X.N[i]? = some y) (hyl : X.env.scope.names.lookup y = some .local)
    (hsw : swapsWith (.DictComp kx vx [⟨tg, iter, ifs, 0⟩, ⟨tg1, iter1, ifs1, 0⟩] scope pos) (some (.Name y py)) spos.line X.env = pure true) (hi : PI X tg iter wi) (ok : BlkOk X.N X.env.scope scope own) (hv : ∀ i ∈ vs1, i ∈ own.map (·.2))
    (hg : ∀ (s : Shared) (H : Hp) (C : Addr) (cl : List (Str × Addr)) (fp : List Addr), PG (X.blk s H scope (compEnvC scope cl C X.env) fp) tg g) (ht : ∀ (s : Shared) (H : Hp) (C : Addr) (cl : List (Str × Addr)) (fp : List Addr), PTs (X.blk s H scope (compEnvC scope cl C X.env) fp) ifs tt)
    (hi1 : ∀ (s : Shared) (H : Hp) (C : Addr) (cl : List (Str × Addr)) (fp : List Addr), PI (X.blk s H scope (compEnvC scope cl C X.env) fp) tg1 iter1 wi1)
    (hg1 : ∀ (s : Shared) (H : Hp) (C : Addr) (cl : List (Str × Addr)) (fp : List Addr), PG (X.blk s H scope (compEnvC scope cl C X.env) fp) tg1 g1) (ht1 : ∀ (s : Shared) (H : Hp) (C : Addr) (cl : List (Str × Addr)) (fp : List Addr), PTs (X.blk s H scope (compEnvC scope cl C X.env) fp) ifs1 tt1)
    (hk : ∀ (s : Shared) (H : Hp) (C : Addr) (cl : List (Str × Addr)) (fp : List Addr), PE (X.blk s H scope (compEnvC scope cl C X.env) fp) kx tk) (he : ∀ (s : Shared) (H : Hp) (C : Addr) (cl : List (Str × Addr)) (fp : List Addr), PE (X.blk s H scope (compEnvC scope cl C X.env) fp) vx tv) (hs : ∀ x, foldedSetIterable iter X.env x = pure x := by intro _; rfl) (hs1 : ∀ env x, foldedSetIterable iter1 env x = pure x := by intro _ _; rfl) :
    PS X (.Assign [.Name y py] (.DictComp kx vx [⟨tg, iter, ifs, 0⟩, ⟨tg1, iter1, ifs1, 0⟩] scope pos) spos) (tAsg (tDc2 wi g tt wi1 g1 tt1 tk tv (own.map (·.2)) vs1) (gName i)) := by
  refine ⟨fun pins s σ H D I h => ?_⟩
  rw [exec_Assign_Name_used _ _ _ _ hsw]
  refine wpAny_bind (wpAny_standAt (wpAny_bind ?_))
  show wpAny _ X.A (do let _ ← comprehension (.DictComp kx vx [⟨tg, iter, ifs, 0⟩, ⟨tg1, iter1, ifs1, 0⟩] scope pos) scope X.env (firstIterPos [⟨tg, iter, ifs, 0⟩, ⟨tg1, iter1, ifs1, 0⟩] pos) newDict false (eval iter X.env) (some (assign (.Name y py) X.env))) _ _ s
  have h : tDc2 wi g tt wi1 g1 tt1 tk tv (own.map (·.2)) vs1 σ H (fun x H1 => gName i x σ H1 D.nx) := h
  refine wpAny_bind (thn (dc2_core (Qf := fun _ s' => SP X pins D .next s') hc hN I hi ok hv hg ht hk he hs hi1 hg1 ht1 hs1 h fun L C s' m H' I' q hn f => ?_) fun _ s' hq => wpAny_pure (wpAny_pure hq))
  show wpAny _ _ (assign (.Name y py) X.env (.ref L)) _ _ _
  refine wpAny_assign_Name (store_ok2 (v := V.ref L) I' hN hy (.inl hyl) rfl (fun u2 J2 ⟨a, sb, ha⟩ => ?_) (.inr hyl))
  obtain ⟨f0, f1, f2, f3, f4, f5⟩ := f
  have haC : C ≠ a := by
    rcases ha with z | z
    · rw [z]; exact f1
    · exact fun e => f4 y a z e.symm
  refine ⟨m, hn.sameBut sb haC, fun h3 sb3 => ?_⟩
  exact ⟨_, H', J2.turned (t' := u2.toks) (fun b o hb e => (sb3.2 b hb).trans e) f0 f1 f3 f4 f5, q⟩
end
end L2

namespace Lg
open PySem L2 Evl PyProof.Rows
/-! ### comprehensions, whatever they gather -/
def wI (X : Cx) (tg iter : Expr) : TI := fun σ H R => ∀ pins s, Inv X pins σ H s → wpAny (model X.prog X.w) X.A (eval iter X.env) (fun v s1 => wpAny (model X.prog X.w) X.A (pyIter v) (PIE X pins σ tg R) X.xe s1) X.xe s
theorem pi_w {X : Cx} {tg iter : Expr} : PI X tg iter (wI X tg iter) := ⟨fun pins s _ _ _ I h => h pins s I⟩
theorem wI.of {X : Cx} {tg iter : Expr} {wi : TI} {σ : L2.St} {H : Hp} {R : It → Hp → Prop} (h : PI X tg iter wi) (q : wi σ H R) : wI X tg iter σ H R := fun pins s I => h.run pins s σ H R I q
def wIb (X : Cx) (scope : Scope) (tg iter : Expr) : TI := fun σ H R => ∀ (s : Shared) (H0 : Hp) (C : Addr) (cl : List (Str × Addr)) (fp : List Addr), wI (X.blk s H0 scope (compEnvC scope cl C X.env) fp) tg iter σ H R
theorem pi_wb {X : Cx} {scope : Scope} {tg iter : Expr} {s : Shared} {H0 : Hp} {C : Addr} {cl : List (Str × Addr)} {fp : List Addr} : PI (X.blk s H0 scope (compEnvC scope cl C X.env) fp) tg iter (wIb X scope tg iter) := ⟨fun pins s' _ _ _ I h => h s H0 C cl fp pins s' I⟩
theorem loop_it {J : It} {n : Nat} {G : Hp → Prop} {Y : Nat → Hp → V → Hp → Prop} (W : Walk J n G Y) {Pv : Nat → Hp → Prop} {H0 : Hp} (h0 : Pv 0 H0) (hG : ∀ i H, i ≤ n → Pv i H → G H) {Fin : Hp → Prop} {Step : V → Hp → (Hp → Prop) → Prop}
    (step : ∀ i v H H', i < n → Pv i H → Y i H v H' → Step v H' (Pv (i + 1))) (fin : ∀ H, Pv n H → Fin H) :
    ∃ Wr : Nat → Nat → Hp → Prop, (∃ m, Wr 0 m H0) ∧ ∀ i m H, Wr i m H → (J.stop i H ∧ Fin H) ∨ (J.go i H ∧ ∃ Nx : Hp → Prop, (∀ H', Nx H' → ∃ m', m' < m ∧ Wr (i + 1) m' H') ∧ ∀ x H', J.yld i H x H' → Step x H' Nx) := by
  refine ⟨fun i m H => m = n - i ∧ i ≤ n ∧ Pv i H, ⟨n, by simp, Nat.zero_le _, h0⟩, ?_⟩
  rintro i m H ⟨rfl, hi, p⟩
  have g := hG i H hi p
  by_cases hlt : i < n
  · exact .inr ⟨W.goes i H hlt g, Pv (i + 1), fun H' p' => ⟨n - (i + 1), by omega, rfl, hlt, p'⟩, fun x H' y => step i x H H' hlt p (W.yields i H x H' hlt g y)⟩
  · have e : i = n := by omega
    subst e
    exact .inl ⟨W.stops H g, fin H p⟩
def wipC (Γ : Ctx) : List Nat → Ctx
  | [] => Γ
  | v :: vs => (wipC Γ vs).set v none
theorem SgL.wip {F H : Hp} {Γ : Ctx} {σ : L2.St} {l : List Addr} (g : SgL F H Γ σ l) (nd : l.Nodup) : ∀ vs : List Nat, ∃ l2, SgL F H (wipC Γ vs) (wipe σ vs) l2 ∧ l2.Nodup ∧ ∀ a ∈ l2, a ∈ l
  | [] => ⟨l, g, nd, fun _ h => h⟩
  | v :: vs => by
    obtain ⟨l2, g2, n2, s2⟩ := SgL.wip g nd vs
    obtain ⟨l3, g3, n3, s3⟩ := SgL.put (o' := none) (w := none) (l' := []) trivial List.nodup_nil v g2 n2 (fun _ h => nomatch h)
    exact ⟨l3, g3, n3, fun a ha => (s3 a ha).elim (s2 a) fun z => nomatch z⟩
theorem wipe_get {σ : L2.St} {i : Nat} : ∀ {vs : List Nat}, i ∈ vs → i < σ.length → (wipe σ vs)[i]? = some none
  | v :: vs, h, hl => by
    show ((wipe σ vs).set v none)[i]? = _
    by_cases e : v = i
    · subst e
      rw [List.getElem?_set_self (by rw [wipe_length]; exact hl)]
    · rw [List.getElem?_set_ne e]
      exact wipe_get ((List.mem_cons.mp h).resolve_left fun z => e z.symm) hl
theorem wipe_eq {σ σ' : L2.St} {vs : List Nat} (hl : σ'.length = σ.length) (h : ∀ i, i ∉ vs → σ'[i]? = σ[i]?) : wipe σ' vs = wipe σ vs := by
  apply List.ext_getElem?
  intro i
  by_cases hi : i ∈ vs
  · by_cases q : i < σ.length
    · rw [wipe_get hi q, wipe_get hi (hl ▸ q)]
    · rw [List.getElem?_eq_none (by rw [wipe_length]; omega), List.getElem?_eq_none (by rw [wipe_length]; omega)]
  · rw [wipe_out hi, wipe_out hi, h i hi]
theorem wipe_idem (σ : L2.St) (vs : List Nat) : wipe (wipe σ vs) vs = wipe σ vs := wipe_eq (wipe_length _ _) fun i hi => wipe_out hi
/-- a target, in a comprehension's block -/
structure Tg {α : Type} (X : Cx) (scope : Scope) (vs : List Nat) (tg : Expr) (R : Rl α) (ext : α → Ctx → Ctx) where
  g : TG
  pg : ∀ (s : Shared) (H0 : Hp) (C : Addr) (cl : List (Str × Addr)) (fp : List Addr), PG (X.blk s H0 scope (compEnvC scope cl C X.env) fp) tg g
  gv : ∀ {Γ : Ctx} {a : α} {σ : L2.St} {F H : Hp} {v : V} {l : List Addr}, SgL F H Γ σ l → l.Nodup → Ex F H → R.r F v a → ∀ Q : L2.St → Hp → Prop, (∀ σ' l', SgL F H (ext a Γ) σ' l' → l'.Nodup → (∀ x ∈ l', x ∈ l) → wipe σ' vs = wipe σ vs → Q σ' H) → g v σ H Q
theorem put_im {α : Type} {R : Rl α} {a : α} {F H : Hp} {Γ : Ctx} {σ : L2.St} {l : List Addr} {v : V} (g : SgL F H Γ σ l) (nd : l.Nodup) (j : Nat) (h : R.r F v a) : ∃ l', SgL F H (Γ.set j (some (im R a))) (σ.set j (some v)) l' ∧ l'.Nodup ∧ ∀ x ∈ l', x ∈ l := by
  obtain ⟨l3, g3, n3, s3⟩ := SgL.put (o' := some (im R a)) (w := some v) (l' := []) ⟨v, rfl, rfl, h⟩ List.nodup_nil j g nd (fun _ h => nomatch h)
  exact ⟨l3, g3, n3, fun x hx => (s3 x hx).elim id fun z => nomatch z⟩
theorem wipe_set {σ : L2.St} {vs : List Nat} {j : Nat} {o : Option V} (h : j ∈ vs) : wipe (σ.set j o) vs = wipe σ vs :=
  wipe_eq (List.length_set ..) fun i hi => List.getElem?_set_ne fun (e : j = i) => hi (by rw [← e]; exact h)
def Tg.name {α : Type} {X : Cx} {scope : Scope} {vs : List Nat} {R : Rl α} {n : Str} {np : Pos} (j : Nat) (hj : j ∈ vs) (hg : ∀ (s : Shared) (H0 : Hp) (C : Addr) (cl : List (Str × Addr)) (fp : List Addr), PG (X.blk s H0 scope (compEnvC scope cl C X.env) fp) (.Name n np) (gName j)) :
    Tg X scope vs (.Name n np) R (fun a Γ => Γ.set j (some (im R a))) where
  g := gName j
  pg := hg
  gv := fun {Γ a σ F H v l} g nd _ h Q q => by
    obtain ⟨l', g', n', s'⟩ := put_im g nd j h
    exact q _ l' g' n' s' (wipe_set hj)
def Tg.pair {α β : Type} {X : Cx} {scope : Scope} {vs : List Nat} {R : Rl α} {S : Rl β} {tg : Expr} (j1 j2 : Nat) (h1 : j1 ∈ vs) (h2 : j2 ∈ vs)
    (hg : ∀ (s : Shared) (H0 : Hp) (C : Addr) (cl : List (Str × Addr)) (fp : List Addr), PG (X.blk s H0 scope (compEnvC scope cl C X.env) fp) tg (gTup X.K 2 (gCons (gName j1) (gCons (gName j2) gNil)))) :
    Tg X scope vs tg (rP R S) (fun c Γ => (Γ.set j1 (some (im R c.1))).set j2 (some (im S c.2))) where
  g := _
  pg := hg
  gv := fun {Γ c σ F H v l} g nd e ⟨p, x, y, e1, e2, e3, e4⟩ Q q => by
    obtain ⟨l1, g1, n1, s1⟩ := put_im g nd j1 e3
    obtain ⟨l2, g2, n2, s2⟩ := put_im g1 n1 j2 e4
    exact ⟨p, _, e1, SqT.of (e p _ e2), rfl, x, [y], rfl, y, [], rfl, rfl, q _ l2 g2 n2 (fun a ha => s1 a (s2 a ha)) (by rw [wipe_set h2, wipe_set h1])⟩
/-! what is gathered: told by d -/
structure Gat {δ : Type} (St : Addr → Hp → Hp → Hp → δ → Prop) : Prop where
  live : ∀ {D : Addr} {H1 F H : Hp} {d : δ}, St D H1 F H d → H D ≠ none
  grow : ∀ {D : Addr} {H1 F H F' H' : Hp} {d : δ}, St D H1 F H d → Gw F H F' H' → St D H1 F' H' d
def Emi {δ : Type} (b : Bs) (Γ : Ctx) (St : Addr → Hp → Hp → Hp → δ → Prop) (em : Addr → L2.St → Hp → (Hp → Prop) → Prop) (d d' : δ) : Prop :=
  ∀ (D : Addr) (H1 : Hp) (σ : L2.St) (F H : Hp) (l : List Addr), SgL F H Γ σ l → Gd b F H l → D ∉ l → Ex H1 H → H1 D = none → F D = none → b.B D = none → St D H1 F H d → ∀ Nx : Hp → Prop, (∀ F' H3 o, Gw F H F' H3 → H3 D ≠ none → St D H1 F' (upd H3 D o) d' → Nx (upd H3 D o)) → em D σ H Nx
section
variable {X : Cx} {b : Bs} {Γ : Ctx} {α β δ : Type} {R : Rl α} {S : Rl β} {as : List α} {St : Addr → Hp → Hp → Hp → δ → Prop} {em : Addr → L2.St → Hp → (Hp → Prop) → Prop} {scope : Scope} {vs vs1 : List Nat} {tg tg1 : Expr} {ext : α → Ctx → Ctx} {ext1 : β → Ctx → Ctx} {wi wi1 : TI}
/-- the frame at a comprehension's start -/
theorem com_start {σ : L2.St} {F H F1 H1 : Hp} {l : List Addr} {D : Addr} {o : HO} (vs : List Nat) (g : SgL F H Γ σ l) (d : Gd b F H l) (w : Gw F H F1 H1) (hD : H1 D = none) :
    ∃ l2, (∀ a ∈ l2, a ∈ l) ∧ Cv b F1 H1 (wipC Γ vs) (wipe σ vs) D l2 F1 (upd H1 D o) := by
  have d1 := d.grow g.t w
  have g1 := g.grow w
  obtain ⟨l2, g2, n2, s2⟩ := g1.wip d1.nd vs
  have d2 : Gd ⟨F1, b.B⟩ F1 H1 l2 := d1.self.of_l n2 fun a ha => ⟨d1.of a (s2 a ha), d1.ob a (s2 a ha)⟩
  exact ⟨l2, s2, Cv.upd ⟨g2, d2, Gw.refl d1.e, fun z => g1.t D (s2 D z) hD, ex_none d1.eb hD, ex_none d1.e hD, hD⟩⟩
theorem Cv.mut {F1 H1 F' H' F3 H3 : Hp} {Γ : Ctx} {σ : L2.St} {D : Addr} {l : List Addr} {o : HO} (c : Cv b F1 H1 Γ σ D l F' H') (hD : H' D ≠ none) (w : Gw F' H' F3 H3) : Cv b F1 H1 Γ σ D l F3 (L2.upd H3 D o) := (c.grow hD w).upd
/-- one clause -/
theorem gen1 (A : Gat St) (T : Tg X scope vs tg R ext) (f : δ → α → δ) {J : It} {F1 H1 : Hp} {σc : L2.St} {Γc : Ctx} {D : Addr} {l2 : List Addr} {H0 : Hp} {d0 : δ} {Fin : Hp → Prop} (hw : wipe σc vs = σc) (hJ : ItOk J F1 as.length (IL R as))
    (c0 : Cv b F1 H1 Γc σc D l2 F1 H0) (s0 : St D H1 F1 H0 d0)
    (he : ∀ (b' : Bs) (i : Nat) (a : α) (d : δ), b'.B = b.B → as[i]? = some a → d = (as.take i).foldl f d0 → Emi b' (ext a Γc) St em d (f d a))
    (fin : ∀ F' H', Cv b F1 H1 Γc σc D l2 F' H' → St D H1 F' H' (as.foldl f d0) → Fin H') :
    ∃ W : Nat → Nat → Hp → Prop, (∃ m, W 0 m H0) ∧ ∀ i m H, W i m H → (J.stop i H ∧ Fin H) ∨ (J.go i H ∧ ∃ Nx : Hp → Prop, (∀ H', Nx H' → ∃ m', m' < m ∧ W (i + 1) m' H') ∧
      ∀ x H', J.yld i H x H' → T.g x σc H' fun σ2 H2 => wipe σ2 vs = σc ∧ em D σ2 H2 Nx) := by
  obtain ⟨G, Y, W, hG, hY⟩ := hJ
  refine loop_it W (Pv := fun i H' => ∃ F', Cv b F1 H1 Γc σc D l2 F' H' ∧ St D H1 F' H' ((as.take i).foldl f d0)) ⟨F1, c0, s0⟩ (fun i H' _ ⟨F', c, _⟩ => hG F' H' c.d.ef c.d.e) (fun i v H' H'' hi ⟨F', c, s⟩ y => ?_) (fun H' ⟨F', c, s⟩ => fin F' H' c (by rw [List.take_length] at s; exact s))
  obtain ⟨F'', y0, w', ⟨a, ha0, rfl⟩, r2⟩ := hY i F' H' v H'' hi c.d.ef c.d.e y
  have hD := A.live s
  have c2 := c.grow hD w'
  have s2 := A.grow s w'
  refine T.gv c2.g c2.d.nd c2.d.e r2 _ fun σ' l3 g3 n3 sub3 hwp => ⟨hwp.trans hw, ?_⟩
  have d3 : Gd ⟨F1, b.B⟩ F'' H'' l3 := c2.d.of_l n3 fun a ha => ⟨c2.d.of a (sub3 a ha), c2.d.ob a (sub3 a ha)⟩
  refine he ⟨F1, b.B⟩ i a _ rfl ha0 rfl D H1 σ' F'' H'' l3 g3 d3 (fun z => c2.nl (sub3 D z)) c2.w.h c2.nH c2.nF c2.nB s2 _ fun F3 H3 o w3 hD3 s3 => ⟨F3, c2.mut (A.live s2) w3, ?_⟩
  rw [List.take_add_one, ha0, List.foldl_append]
  exact s3
/-- two clauses -/
theorem gen2 (A : Gat St) (T : Tg X scope vs tg R ext) (T1 : Tg X scope vs1 tg1 S ext1) (bs : α → List β) (f : δ → α → β → δ) {J : It} {F1 H1 : Hp} {σc : L2.St} {Γc : Ctx} {D : Addr} {l2 : List Addr} {H0 : Hp} {d0 : δ} {Fin : Hp → Prop} (hw : wipe σc vs = σc) (hJ : ItOk J F1 as.length (IL R as))
    (c0 : Cv b F1 H1 Γc σc D l2 F1 H0) (s0 : St D H1 F1 H0 d0)
    (hi : ∀ (b' : Bs) (i : Nat) (a : α), b'.B = b.B → as[i]? = some a → ∀ σ F H l, SgL F H (ext a Γc) σ l → Gd b' F H l → ∀ Rr : It → Hp → Prop, (∀ J F1 H1, Gw F H F1 H1 → ItOk J F1 (bs a).length (IL S (bs a)) → Rr J H1) → wi1 σ H Rr)
    (he : ∀ (b' : Bs) (i : Nat) (a : α) (j : Nat) (c : β) (d : δ), b'.B = b.B → as[i]? = some a → (bs a)[j]? = some c → d = ((bs a).take j).foldl (fun d c => f d a c) ((as.take i).foldl (fun d a => (bs a).foldl (fun d c => f d a c) d) d0) → Emi b' (ext1 c (wipC (ext a Γc) vs1)) St em d (f d a c))
    (fin : ∀ F' H', Cv b F1 H1 Γc σc D l2 F' H' → St D H1 F' H' (as.foldl (fun d a => (bs a).foldl (fun d c => f d a c) d) d0) → Fin H') :
    ∃ W : Nat → Nat → Hp → Prop, (∃ m, W 0 m H0) ∧ ∀ i m H, W i m H → (J.stop i H ∧ Fin H) ∨ (J.go i H ∧ ∃ Nx : Hp → Prop, (∀ H', Nx H' → ∃ m', m' < m ∧ W (i + 1) m' H') ∧
      ∀ x H', J.yld i H x H' → T.g x σc H' fun σ2 H2 => wipe σ2 vs = σc ∧ wi1 σ2 H2 fun J1 H4 => ∃ W1 : Nat → Nat → Hp → Prop, (∃ m, W1 0 m H4) ∧ ∀ j k H, W1 j k H →
        (J1.stop j H ∧ Nx H) ∨ (J1.go j H ∧ ∃ Nx1 : Hp → Prop, (∀ H', Nx1 H' → ∃ k', k' < k ∧ W1 (j + 1) k' H') ∧ ∀ x H', J1.yld j H x H' → T1.g x (wipe σ2 vs1) H' fun σ3 H5 => wipe σ3 vs1 = wipe σ2 vs1 ∧ em D σ3 H5 Nx1)) := by
  obtain ⟨G, Y, W, hG, hY⟩ := hJ
  refine loop_it W (Pv := fun i H' => ∃ F', Cv b F1 H1 Γc σc D l2 F' H' ∧ St D H1 F' H' ((as.take i).foldl (fun d a => (bs a).foldl (fun d c => f d a c) d) d0)) ⟨F1, c0, s0⟩ (fun i H' _ ⟨F', c, _⟩ => hG F' H' c.d.ef c.d.e) (fun i v H' H'' hi0 ⟨F', c, s⟩ y => ?_) (fun H' ⟨F', c, s⟩ => fin F' H' c (by rw [List.take_length] at s; exact s))
  obtain ⟨F'', y0, w', ⟨a, ha0, rfl⟩, r2⟩ := hY i F' H' v H'' hi0 c.d.ef c.d.e y
  have hD := A.live s
  have c2 := c.grow hD w'
  have s2 := A.grow s w'
  refine T.gv c2.g c2.d.nd c2.d.e r2 _ fun σ' l3 g3 n3 sub3 hwp => ⟨hwp.trans hw, ?_⟩
  have d3 : Gd ⟨F1, b.B⟩ F'' H'' l3 := c2.d.of_l n3 fun a ha => ⟨c2.d.of a (sub3 a ha), c2.d.ob a (sub3 a ha)⟩
  refine hi ⟨F1, b.B⟩ i a rfl ha0 σ' F'' H'' l3 g3 d3 _ fun J1 F4 H4 w4 hJ1 => ?_
  obtain ⟨G1, Y1, W1, hG1, hY1⟩ := hJ1
  -- the inner loop's frame
  have hD2 := A.live s2
  have c4 := c2.grow hD2 w4
  have s4 := A.grow s2 w4
  obtain ⟨l4, g4, n4, sub4⟩ := (g3.grow w4).wip (d3.grow g3.t w4).nd vs1
  have d4 : Gd ⟨F1, b.B⟩ F4 H4 l4 := c4.d.of_l n4 fun a ha => ⟨c4.d.of a (sub3 a (sub4 a ha)), c4.d.ob a (sub3 a (sub4 a ha))⟩
  have i4 : Cv b F1 H1 (wipC (ext a Γc) vs1) (wipe σ' vs1) D l4 F4 H4 := ⟨g4, d4, c4.w, fun z => c4.nl (sub3 D (sub4 D z)), c4.nB, c4.nF, c4.nH⟩
  have eG : ∀ F' : Hp, Ex F1 F' → Ex F4 F' → True := fun _ _ _ => trivial
  refine loop_it W1 (Pv := fun j H' => ∃ F', Ex F4 F' ∧ Cv b F1 H1 Γc σc D l2 F' H' ∧ Cv b F1 H1 (wipC (ext a Γc) vs1) (wipe σ' vs1) D l4 F' H' ∧ St D H1 F' H' (((bs a).take j).foldl (fun d c => f d a c) ((as.take i).foldl (fun d a => (bs a).foldl (fun d c => f d a c) d) d0))) ⟨F4, Ex.refl _, c4, i4, s4⟩
    (fun j H' _ ⟨F', e, c, _, _⟩ => hG1 F' H' e c.d.e) (fun j v1 H5 H6 hj ⟨F5, e5, c5, i5, s5⟩ y1 => ?_) (fun H' ⟨F', e, c, _, s⟩ => ⟨F', c, ?_⟩)
  · obtain ⟨F6, y0, w6, ⟨z, hz0, rfl⟩, r6⟩ := hY1 j F5 H5 v1 H6 hj e5 c5.d.e y1
    have hD5 := A.live s5
    have c6 := c5.grow hD5 w6
    have i6 := i5.grow hD5 w6
    have s6 := A.grow s5 w6
    refine T1.gv i6.g i6.d.nd i6.d.e r6 _ fun σ3 l6 g6 n6 sub6 hwp1 => ⟨hwp1.trans (wipe_idem _ _), ?_⟩
    have d6 : Gd ⟨F1, b.B⟩ F6 H6 l6 := i6.d.of_l n6 fun a ha => ⟨i6.d.of a (sub6 a ha), i6.d.ob a (sub6 a ha)⟩
    refine he ⟨F1, b.B⟩ i a j z _ rfl ha0 hz0 rfl D H1 σ3 F6 H6 l6 g6 d6 (fun z => i6.nl (sub6 D z)) c6.w.h c6.nH c6.nF c6.nB s6 _ fun F7 H7 o w7 hD7 s7 => ⟨F7, (e5.trans w6.f).trans w7.f, c6.mut (A.live s6) w7, i6.mut (A.live s6) w7, ?_⟩
    rw [List.take_add_one, hz0, List.foldl_append]
    exact s7
  · rw [List.take_length] at s
    rw [List.take_add_one, ha0, List.foldl_append]
    exact s
end
end Lg

namespace Lg
open PySem L2 Evl PyProof.Rows
/-! lists of data -/
def StL {γ : Type} (S : Rl γ) (D : Addr) (H1 F H : Hp) (zs : List γ) : Prop := ∃ xs, H D = some (.lst xs) ∧ All2 (S.r F) xs zs
theorem StL.ok {γ : Type} {S : Rl γ} : Gat (StL S) := ⟨fun ⟨xs, h, _⟩ => (by rw [h]; exact (fun z => nomatch z)), fun ⟨xs, h, k⟩ w => ⟨xs, w.h _ _ h, k.imp fun _ _ => S.m w.f⟩⟩
def emL (te : TE) (D : Addr) (σ : L2.St) (H : Hp) (Nx : Hp → Prop) : Prop := te σ H fun y H4 => ∃ acc, H4 D = some (.lst acc) ∧ acc.length < sizeLine ∧ Nx (upd H4 D (.lst (acc ++ [y])))
/-! dicts of data -/
def StD {β : Type} (S : Rl β) (D : Addr) (H1 F H : Hp) (kvs : List (Key × β)) : Prop := ∃ ws, H D = some (.dK ws) ∧ KvR (S.r F) ws kvs
theorem StD.ok {β : Type} {S : Rl β} : Gat (StD S) := ⟨fun ⟨xs, h, _⟩ => (by rw [h]; exact (fun z => nomatch z)), fun ⟨xs, h, k⟩ w => ⟨xs, w.h _ _ h, k.imp fun _ _ => S.m w.f⟩⟩
def emD (tk tv : TE) (D : Addr) (σ : L2.St) (H : Hp) (Nx : Hp → Prop) : Prop := tk σ H fun y H4 => tv σ H4 fun z H5 => ∃ kvs k, y = kV k ∧ H5 D = some (.dK kvs) ∧ kvs.length < sizeLine ∧ Nx (upd H5 D (.dK (putK kvs k z)))
/-! pairs whose second is a list of one's own -/
def opr {α β : Type} (R : Rl α) (S : Rl β) (c : α × List β) : Sl where
  P := fun F H v l => ∃ t x r ys, v = .ref t ∧ F t = some (.tup [x, .ref r]) ∧ R.r F x c.1 ∧ l = [r] ∧ H r = some (.lst ys) ∧ All2 (S.r F) ys c.2
  m := fun e k ⟨t, x, r, ys, h1, h2, h3, h4, h5, h6⟩ => ⟨t, x, r, ys, h1, e t _ h2, R.m e h3, h4, by rw [k r (by rw [h4]; exact List.mem_singleton.mpr rfl)]; exact h5, h6.imp fun _ _ => S.m e⟩
  t := fun ⟨t, x, r, ys, h1, h2, h3, h4, h5, h6⟩ a ha => by
    rw [h4] at ha
    rw [List.mem_singleton.mp ha, h5]
    exact fun z => nomatch z
  d := fun ⟨t, x, r, ys, h1, h2, h3, h4, h5, h6⟩ => by rw [h4]; simp
inductive PL {α β : Type} (R : Rl α) (S : Rl β) (F H : Hp) : List V → List (α × List β) → List Addr → Prop
  | nil : PL R S F H [] [] []
  | cons {t r : Addr} {x : V} {ys : List V} {c : α × List β} {vs : List V} {cs : List (α × List β)} {qs : List Addr} : F t = some (.tup [x, .ref r]) → R.r F x c.1 → H r = some (.lst ys) → All2 (S.r F) ys c.2 → PL R S F H vs cs qs → PL R S F H (.ref t :: vs) (c :: cs) (r :: qs)
section
variable {α β : Type} {R : Rl α} {S : Rl β} {F F' H H' : Hp} {vs : List V} {cs : List (α × List β)} {qs : List Addr}
theorem PL.m (e : Ex F F') (h : PL R S F H vs cs qs) : (∀ r ∈ qs, H' r = H r) → PL R S F' H' vs cs qs := by
  induction h with
  | nil => exact fun _ => .nil
  | cons h1 h2 h3 h4 _ ih => exact fun k => .cons (e _ _ h1) (R.m e h2) (by rw [k _ List.mem_cons_self]; exact h3) (h4.imp fun _ _ => S.m e) (ih fun r hr => k r (List.mem_cons_of_mem _ hr))
theorem PL.t (h : PL R S F H vs cs qs) : ∀ r ∈ qs, H r ≠ none := by
  induction h with
  | nil => exact fun _ z => nomatch z
  | cons h1 h2 h3 h4 _ ih =>
    intro c hc
    rcases List.mem_cons.mp hc with z | z
    · rw [z, h3]; exact fun z => nomatch z
    · exact ih c z
theorem PL.len (h : PL R S F H vs cs qs) : vs.length = cs.length := by
  induction h with
  | nil => rfl
  | cons _ _ _ _ _ ih => simp [ih]
theorem PL.one (h : PL R S F H vs cs qs) {t r : Addr} {x : V} {ys : List V} {c : α × List β} (h1 : F t = some (.tup [x, .ref r])) (h2 : R.r F x c.1) (h3 : H r = some (.lst ys)) (h4 : All2 (S.r F) ys c.2) : PL R S F H (vs ++ [.ref t]) (cs ++ [c]) (qs ++ [r]) := by
  induction h with
  | nil => exact .cons h1 h2 h3 h4 .nil
  | cons a b c d _ ih => exact .cons a b c d ih
end
/-- a list of them, one's own -/
def owP {α β : Type} (R : Rl α) (S : Rl β) (cs : List (α × List β)) : Sl where
  P := fun F H v l => ∃ q xs qs, v = .ref q ∧ l = q :: qs ∧ l.Nodup ∧ H q = some (.lst xs) ∧ PL R S F H xs cs qs
  m := fun e k ⟨q, ws, qs, h1, h2, h3, h4, h5⟩ => ⟨q, ws, qs, h1, h2, h3, by rw [k q (by rw [h2]; exact List.mem_cons_self)]; exact h4, h5.m e fun r hr => k r (by rw [h2]; exact List.mem_cons_of_mem _ hr)⟩
  t := fun ⟨q, ws, qs, h1, h2, h3, h4, h5⟩ a ha => by
    rw [h2] at ha
    rcases List.mem_cons.mp ha with z | z
    · rw [z, h4]; exact fun z => nomatch z
    · exact h5.t a z
  d := fun ⟨q, ws, qs, h1, h2, h3, h4, h5⟩ => h3
def StP {α β : Type} (R : Rl α) (S : Rl β) (D : Addr) (H1 F H : Hp) (cs : List (α × List β)) : Prop := ∃ xs qs, H D = some (.lst xs) ∧ PL R S F H xs cs qs ∧ (D :: qs).Nodup ∧ ∀ r ∈ qs, H1 r = none ∧ F r = none
theorem StP.ok {α β : Type} {R : Rl α} {S : Rl β} : Gat (StP R S) := ⟨fun ⟨xs, qs, h, _⟩ => (by rw [h]; exact (fun z => nomatch z)), fun ⟨xs, qs, h, k, n, f⟩ w =>
  ⟨xs, qs, w.h _ _ h, k.m w.f fun r hr => ex_eq w.h (k.t r hr), n, fun r hr => ⟨(f r hr).1, w.k r (f r hr).2 (k.t r hr)⟩⟩⟩
section
variable {X : Cx} {b : Bs} {Γ Γ' : Ctx} {α β γ : Type} {R : Rl α} {S : Rl β} {U : Rl γ} {scope : Scope} {elt kx vx : Expr}
theorem Emi.lst {zs : List γ} {z : γ} (he : ∀ (s : Shared) (H0 : Hp) (C : Addr) (cl : List (Str × Addr)) (fp : List Addr), EV (X.blk s H0 scope (compEnvC scope cl C X.env) fp) b Γ' elt (im U z)) (hz : zs.length < 100000) : Emi b Γ' (StL U) (emL (wEb X scope elt)) zs (zs ++ [z]) :=
  fun D H1 σ F H l g d nD e1 n1 nF nB ⟨xs, h, k⟩ Nx q s H0 C cl fp => he s H0 C cl fp σ F H l g d _ fun v F' H' l' w p _ => by
    have h' := w.h D _ h
    exact ⟨xs, h', sz_lt (by rw [k.len]; exact hz), q F' H' (.lst (xs ++ [v])) w (by rw [h']; exact fun z => nomatch z) ⟨_, upd_same, (k.imp fun _ _ => U.m w.f).app (.cons p.2 .nil)⟩⟩
theorem Emi.dict {κ : Type} {Rk : Rl κ} {z : κ} {k : Key} {y : γ} {kvs : List (Key × γ)} (hk : ∀ (s : Shared) (H0 : Hp) (C : Addr) (cl : List (Str × Addr)) (fp : List Addr), EV (X.blk s H0 scope (compEnvC scope cl C X.env) fp) b Γ' kx (im Rk z)) (hkk : ∀ F v, Rk.r F v z → v = kV k)
    (hv : ∀ (s : Shared) (H0 : Hp) (C : Addr) (cl : List (Str × Addr)) (fp : List Addr), EV (X.blk s H0 scope (compEnvC scope cl C X.env) fp) b Γ' vx (im U y)) (hz : kvs.length < 100000) : Emi b Γ' (StD U) (emD (wEb X scope kx) (wEb X scope vx)) kvs (kput kvs k y) :=
  fun D H1 σ F H l g d nD e1 n1 nF nB ⟨ws, h, kv⟩ Nx q s H0 C cl fp => hk s H0 C cl fp σ F H l g d _ fun v F1 H2 l1 w1 p1 _ s H0 C cl fp => hv s H0 C cl fp σ F1 H2 l (g.grow w1) (d.grow g.t w1) _ fun u F3 H3 l3 w3 p3 _ => by
    have w := w1.trans w3
    have h' := w.h D _ h
    exact ⟨ws, k, hkk _ _ p1.2, h', sz_lt (by rw [kv.len]; exact hz), q F3 H3 _ w (by rw [h']; exact fun z => nomatch z) ⟨_, upd_same, KvR.put k p3.2 (kv.imp fun _ _ => U.m w.f)⟩⟩
theorem Emi.opr {cs : List (α × List β)} {c : α × List β} (he : ∀ (s : Shared) (H0 : Hp) (C : Addr) (cl : List (Str × Addr)) (fp : List Addr), EV (X.blk s H0 scope (compEnvC scope cl C X.env) fp) b Γ' elt (opr R S c)) (hz : cs.length < 100000) : Emi b Γ' (StP R S) (emL (wEb X scope elt)) cs (cs ++ [c]) :=
  fun D H1 σ F H l g d nD e1 n1 nF nB ⟨xs, qs, h, k, n, f⟩ Nx q s H0 C cl fp => he s H0 C cl fp σ F H l g d _ fun v F' H' l' w ⟨t, x, r, ys, ev, h1, h2, h3, h4, h5⟩ fr => by
    subst h3
    obtain ⟨fr1, fr2⟩ := fr r (List.mem_singleton.mpr rfl)
    have h' := w.h D _ h
    have hD0 : H D ≠ none := by rw [h]; exact fun z => nomatch z
    have rD : r ≠ D := fun z => hD0 (z ▸ fr1)
    have k' := k.m (H' := upd H' D (.lst (xs ++ [v]))) w.f fun s hs => by
      rw [upd_ne (fun (z : s = D) => (List.nodup_cons.mp n).1 (by rw [← z]; exact hs))]
      exact ex_eq w.h (k.t s hs)
    refine ⟨xs, h', sz_lt (by rw [k.len]; exact hz), q F' H' (.lst (xs ++ [v])) w (by rw [h']; exact fun z => nomatch z) ⟨xs ++ [v], qs ++ [r], upd_same, ?_, ?_, ?_⟩⟩
    · rw [ev]
      have k2 := k'
      rw [ev] at k2
      exact k2.one h1 h2 (by rw [upd_ne rD]; exact h4) h5
    · rw [← List.cons_append]
      refine List.nodup_append.mpr ⟨n, by simp, fun a ha c hc z => ?_⟩
      rw [List.mem_singleton.mp hc] at z
      subst z
      rcases List.mem_cons.mp ha with z | z
      · exact rD z
      · exact k.t a z fr1
    · intro s hs
      rcases List.mem_append.mp hs with z | z
      · exact ⟨(f s z).1, w.k s (f s z).2 (k.t s z)⟩
      · rw [List.mem_singleton.mp z]
        exact ⟨ex_none e1 fr1, fr2⟩
end
theorem fold_app {α γ : Type} (g : α → γ) : ∀ (as : List α) (d : List γ), as.foldl (fun d a => d ++ [g a]) d = d ++ as.map g
  | [], d => by simp
  | a :: as, d => by rw [List.foldl_cons, fold_app g as]; simp
theorem fold_app2 {α β γ : Type} (bs : α → List β) (g : α → β → γ) : ∀ (as : List α) (d : List γ), as.foldl (fun d a => (bs a).foldl (fun d c => d ++ [g a c]) d) d = d ++ as.flatMap fun a => (bs a).map (g a)
  | [], d => by simp
  | a :: as, d => by rw [List.foldl_cons, fold_app2 bs g as, fold_app]; simp
section
variable {X : Cx} {b : Bs} {Γ : Ctx} {α β γ δ : Type} {R : Rl α} {S : Rl β} {U : Rl γ} {as : List α} {scope : Scope} {elt kx vx iter iter1 tg tg1 : Expr} {pos : Pos} {own : List (Str × Nat)} {vs1 : List Nat} {ext : α → Ctx → Ctx} {ext1 : β → Ctx → Ctx}
/-- [elt for tg in iter] -/
theorem LV.lc1 (T : Tg X scope (own.map (·.2)) tg R ext) (f : α → γ) (hi : IV X b Γ tg iter as.length (IL R as)) (nd : X.N.Nodup) (ok : blkC X.N X.env.scope scope own = true) (hm : as.length ≤ 100000)
    (he : ∀ (b' : Bs) (i : Nat) (a : α) (s : Shared) (H0 : Hp) (C : Addr) (cl : List (Str × Addr)) (fp : List Addr), b'.B = b.B → as[i]? = some a → EV (X.blk s H0 scope (compEnvC scope cl C X.env) fp) b' (ext a (wipC Γ (own.map (·.2)))) elt (im U (f a)))
    (hc : X.calm = true := by rfl) (hf : ∀ x, foldedSetIterable iter X.env x = pure x := by intro _; rfl) : LV X b Γ (.ListComp elt [⟨tg, iter, [], 0⟩] scope pos) (ow U (as.map f)) := by
  obtain ⟨wi, p1, k1⟩ := hi
  refine ⟨_, pe_lc (own := own) (g := T.g) (tt := tYes) (te := wEb X scope elt) hc nd p1 (blkOk_by ok) T.pg (fun _ _ _ _ _ => pts_nil) (fun _ _ _ _ _ => pe_wb) hf, fun σ F H l g d Q q => ?_,
    fun i y py spos hi hy hsw => ps_setLc (own := own) (g := T.g) (tt := tYes) (te := wEb X scope elt) hc nd hi hy hsw p1 (blkOk_by ok) T.pg (fun _ _ _ _ _ => pts_nil) (fun _ _ _ _ _ => pe_wb) hf⟩
  refine k1 σ F H l g d _ fun J F1 H1 w hJ D hD => ?_
  obtain ⟨l2, s2, c0⟩ := com_start (o := .lst []) (own.map (·.2)) g d w hD
  exact gen1 (em := emL (wEb X scope elt)) StL.ok T (fun d a => d ++ [f a]) (wipe_idem _ _) hJ c0 (d0 := []) ⟨[], upd_same, .nil⟩
    (fun b' i a d hb ha hd => Emi.lst (fun s H0 C cl fp => he b' i a s H0 C cl fp hb ha) (by
      rw [hd, fold_app, List.nil_append, List.length_map, List.length_take]
      have := (List.getElem?_eq_some_iff.mp ha).1
      omega))
    fun F' H' c ⟨xs, h, k⟩ => q (.ref D) F' H' [D] (w.trans c.w) ⟨D, xs, rfl, rfl, h, by rw [fold_app, List.nil_append] at k; exact k⟩ fun a h => by rw [List.mem_singleton.mp h]; exact ⟨ex_none w.h hD, c.nF⟩
/-- .. of pairs with a list of one's own -/
theorem EV.lcO (T : Tg X scope (own.map (·.2)) tg R ext) (f : α → γ × List β) (hi : IV X b Γ tg iter as.length (IL R as)) (nd : X.N.Nodup) (ok : blkC X.N X.env.scope scope own = true) (hm : as.length ≤ 100000)
    (he : ∀ (b' : Bs) (i : Nat) (a : α) (s : Shared) (H0 : Hp) (C : Addr) (cl : List (Str × Addr)) (fp : List Addr), b'.B = b.B → as[i]? = some a → EV (X.blk s H0 scope (compEnvC scope cl C X.env) fp) b' (ext a (wipC Γ (own.map (·.2)))) elt (opr U S (f a)))
    (hc : X.calm = true := by rfl) (hf : ∀ x, foldedSetIterable iter X.env x = pure x := by intro _; rfl) : LV X b Γ (.ListComp elt [⟨tg, iter, [], 0⟩] scope pos) (owP U S (as.map f)) := by
  obtain ⟨wi, p1, k1⟩ := hi
  refine ⟨_, pe_lc (own := own) (g := T.g) (tt := tYes) (te := wEb X scope elt) hc nd p1 (blkOk_by ok) T.pg (fun _ _ _ _ _ => pts_nil) (fun _ _ _ _ _ => pe_wb) hf, fun σ F H l g d Q q => ?_,
    fun i y py spos hi hy hsw => ps_setLc (own := own) (g := T.g) (tt := tYes) (te := wEb X scope elt) hc nd hi hy hsw p1 (blkOk_by ok) T.pg (fun _ _ _ _ _ => pts_nil) (fun _ _ _ _ _ => pe_wb) hf⟩
  refine k1 σ F H l g d _ fun J F1 H1 w hJ D hD => ?_
  obtain ⟨l2, s2, c0⟩ := com_start (o := .lst []) (own.map (·.2)) g d w hD
  exact gen1 (em := emL (wEb X scope elt)) StP.ok T (fun d a => d ++ [f a]) (wipe_idem _ _) hJ c0 (d0 := []) ⟨[], [], upd_same, .nil, by simp, fun _ h => nomatch h⟩
    (fun b' i a d hb ha hd => Emi.opr (fun s H0 C cl fp => he b' i a s H0 C cl fp hb ha) (by
      rw [hd, fold_app, List.nil_append, List.length_map, List.length_take]
      have := (List.getElem?_eq_some_iff.mp ha).1
      omega))
    fun F' H' c ⟨xs, qs, h, k, n, fr⟩ => q (.ref D) F' H' (D :: qs) (w.trans c.w) ⟨D, xs, qs, rfl, rfl, n, h, by rw [fold_app, List.nil_append] at k; exact k⟩ fun a h => by
      rcases List.mem_cons.mp h with z | z
      · rw [z]; exact ⟨ex_none w.h hD, c.nF⟩
      · exact ⟨ex_none w.h (fr a z).1, (fr a z).2⟩
/-- {kx: vx for tg in iter} -/
theorem LV.dc1 (T : Tg X scope (own.map (·.2)) tg R ext) (kf : α → Key) (vf : α → γ) (hi : IV X b Γ tg iter as.length (IL R as)) (nd : X.N.Nodup) (ok : blkC X.N X.env.scope scope own = true) (hm : as.length ≤ 50000)
    (hk : ∀ (b' : Bs) (i : Nat) (a : α), b'.B = b.B → as[i]? = some a → ∃ (κ : Type) (Rk : Rl κ) (z : κ), (∀ (s : Shared) (H0 : Hp) (C : Addr) (cl : List (Str × Addr)) (fp : List Addr), EV (X.blk s H0 scope (compEnvC scope cl C X.env) fp) b' (ext a (wipC Γ (own.map (·.2)))) kx (im Rk z)) ∧ ∀ F v, Rk.r F v z → v = kV (kf a))
    (hv : ∀ (b' : Bs) (i : Nat) (a : α) (s : Shared) (H0 : Hp) (C : Addr) (cl : List (Str × Addr)) (fp : List Addr), b'.B = b.B → as[i]? = some a → EV (X.blk s H0 scope (compEnvC scope cl C X.env) fp) b' (ext a (wipC Γ (own.map (·.2)))) vx (im U (vf a)))
    (hc : X.calm = true := by rfl) (hf : ∀ x, foldedSetIterable iter X.env x = pure x := by intro _; rfl) : LV X b Γ (.DictComp kx vx [⟨tg, iter, [], 0⟩] scope pos) (owD U (as.foldl (fun kvs a => kput kvs (kf a) (vf a)) [])) := by
  obtain ⟨wi, p1, k1⟩ := hi
  have len : ∀ (as : List α) (d : List (Key × γ)), (as.foldl (fun kvs a => kput kvs (kf a) (vf a)) d).length ≤ d.length + as.length := by
    intro as
    induction as with
    | nil => exact fun d => Nat.le_refl _
    | cons a as ih =>
      intro d
      refine Nat.le_trans (ih _) ?_
      have : (kput d (kf a) (vf a)).length ≤ d.length + 1 := by unfold kput; split <;> simp
      rw [List.length_cons]
      show (kput d (kf a) (vf a)).length + as.length ≤ _
      omega
  refine ⟨_, pe_dc (own := own) (g := T.g) (tt := tYes) (tk := wEb X scope kx) (tv := wEb X scope vx) hc nd p1 (blkOk_by ok) T.pg (fun _ _ _ _ _ => pts_nil) (fun _ _ _ _ _ => pe_wb) (fun _ _ _ _ _ => pe_wb) hf, fun σ F H l g d Q q => ?_,
    fun i y py spos hi hy hsw => ps_setDc (own := own) (g := T.g) (tt := tYes) (tk := wEb X scope kx) (tv := wEb X scope vx) hc nd hi hy hsw p1 (blkOk_by ok) T.pg (fun _ _ _ _ _ => pts_nil) (fun _ _ _ _ _ => pe_wb) (fun _ _ _ _ _ => pe_wb) hf⟩
  refine k1 σ F H l g d _ fun J F1 H1 w hJ D hD => ?_
  obtain ⟨l2, s2, c0⟩ := com_start (o := .dK []) (own.map (·.2)) g d w hD
  exact gen1 (em := emD (wEb X scope kx) (wEb X scope vx)) StD.ok T (fun kvs a => kput kvs (kf a) (vf a)) (wipe_idem _ _) hJ c0 (d0 := []) ⟨[], upd_same, .nil⟩
    (fun b' i a d hb ha hd => by
      obtain ⟨κ, Rk, z, hz, hkk⟩ := hk b' i a hb ha
      exact Emi.dict hz hkk (fun s H0 C cl fp => hv b' i a s H0 C cl fp hb ha) (by
        have := len (as.take i) []
        rw [List.length_take] at this
        have := (List.getElem?_eq_some_iff.mp ha).1
        rw [hd]
        simp at *
        omega))
    fun F' H' c ⟨xs, h, k⟩ => q (.ref D) F' H' [D] (w.trans c.w) ⟨D, xs, rfl, rfl, h, k⟩ fun a h => by rw [List.mem_singleton.mp h]; exact ⟨ex_none w.h hD, c.nF⟩
/-- [elt for tg in iter for tg1 in iter1] -/
theorem LV.lc2 (T : Tg X scope (own.map (·.2)) tg R ext) (T1 : Tg X scope vs1 tg1 S ext1) (bs : α → List β) (f : α → β → γ) (hi : IV X b Γ tg iter as.length (IL R as)) (nd : X.N.Nodup) (ok : blkC X.N X.env.scope scope own = true) (hv : ∀ i ∈ vs1, i ∈ own.map (·.2)) (hm : (as.flatMap fun a => (bs a).map (f a)).length ≤ 100000)
    (hi1 : ∀ (b' : Bs) (i : Nat) (a : α) (s : Shared) (H0 : Hp) (C : Addr) (cl : List (Str × Addr)) (fp : List Addr), b'.B = b.B → as[i]? = some a → IV (X.blk s H0 scope (compEnvC scope cl C X.env) fp) b' (ext a (wipC Γ (own.map (·.2)))) tg1 iter1 (bs a).length (IL S (bs a)))
    (he : ∀ (b' : Bs) (i : Nat) (a : α) (j : Nat) (c : β) (s : Shared) (H0 : Hp) (C : Addr) (cl : List (Str × Addr)) (fp : List Addr), b'.B = b.B → as[i]? = some a → (bs a)[j]? = some c → EV (X.blk s H0 scope (compEnvC scope cl C X.env) fp) b' (ext1 c (wipC (ext a (wipC Γ (own.map (·.2)))) vs1)) elt (im U (f a c)))
    (hc : X.calm = true := by rfl) (hf : ∀ x, foldedSetIterable iter X.env x = pure x := by intro _; rfl) (hf1 : ∀ env x, foldedSetIterable iter1 env x = pure x := by intro _ _; rfl) : LV X b Γ (.ListComp elt [⟨tg, iter, [], 0⟩, ⟨tg1, iter1, [], 0⟩] scope pos) (ow U (as.flatMap fun a => (bs a).map (f a))) := by
  obtain ⟨wi, p1, k1⟩ := hi
  refine ⟨_, pe_lc2 (own := own) (vs1 := vs1) (g := T.g) (g1 := T1.g) (tt := tYes) (tt1 := tYes) (wi1 := wIb X scope tg1 iter1) (te := wEb X scope elt) hc nd p1 (blkOk_by ok) hv T.pg (fun _ _ _ _ _ => pts_nil) (fun _ _ _ _ _ => pi_wb) T1.pg (fun _ _ _ _ _ => pts_nil) (fun _ _ _ _ _ => pe_wb) hf hf1, fun σ F H l g d Q q => ?_,
    fun i y py spos hi hy hsw => ps_setLc2 (own := own) (vs1 := vs1) (g := T.g) (g1 := T1.g) (tt := tYes) (tt1 := tYes) (wi1 := wIb X scope tg1 iter1) (te := wEb X scope elt) hc nd hi hy hsw p1 (blkOk_by ok) hv T.pg (fun _ _ _ _ _ => pts_nil) (fun _ _ _ _ _ => pi_wb) T1.pg (fun _ _ _ _ _ => pts_nil) (fun _ _ _ _ _ => pe_wb) hf hf1⟩
  refine k1 σ F H l g d _ fun J F1 H1 w hJ D hD => ?_
  obtain ⟨l2, s2, c0⟩ := com_start (o := .lst []) (own.map (·.2)) g d w hD
  exact gen2 (em := emL (wEb X scope elt)) (wi1 := wIb X scope tg1 iter1) StL.ok T T1 bs (fun d a c => d ++ [f a c]) (wipe_idem _ _) hJ c0 (d0 := []) ⟨[], upd_same, .nil⟩
    (fun b' i a hb ha σ F H l g d Rr q s H0 C cl fp => by
      obtain ⟨w1, p1, k1⟩ := hi1 b' i a s H0 C cl fp hb ha
      exact wI.of p1 (k1 σ F H l g d Rr q))
    (fun b' i a j c d hb ha hcj hd => Emi.lst (fun s H0 C cl fp => he b' i a j c s H0 C cl fp hb ha hcj) (by
      have hlt := (List.getElem?_eq_some_iff.mp ha).1
      have hjt := (List.getElem?_eq_some_iff.mp hcj).1
      have e : as = as.take i ++ a :: as.drop (i + 1) := by
        have h1 := List.take_append_drop i as
        rw [List.drop_eq_getElem_cons hlt, (List.getElem?_eq_some_iff.mp ha).2] at h1
        exact h1.symm
      rw [hd, fold_app, fold_app2, List.nil_append, List.length_append, List.length_map, List.length_take]
      rw [e, List.flatMap_append, List.flatMap_cons, List.length_append, List.length_append, List.length_map] at hm
      omega))
    fun F' H' c ⟨xs, h, k⟩ => q (.ref D) F' H' [D] (w.trans c.w) ⟨D, xs, rfl, rfl, h, by rw [fold_app2, List.nil_append] at k; exact k⟩ fun a h => by rw [List.mem_singleton.mp h]; exact ⟨ex_none w.h hD, c.nF⟩
/-- {kx: vx for tg in iter for tg1 in iter1} -/
theorem LV.dc2 (T : Tg X scope (own.map (·.2)) tg R ext) (T1 : Tg X scope vs1 tg1 S ext1) (bs : α → List β) (kf : α → β → Key) (vf : α → β → γ) (hi : IV X b Γ tg iter as.length (IL R as)) (nd : X.N.Nodup) (ok : blkC X.N X.env.scope scope own = true) (hv : ∀ i ∈ vs1, i ∈ own.map (·.2)) (hm : (as.flatMap bs).length ≤ 50000)
    (hi1 : ∀ (b' : Bs) (i : Nat) (a : α) (s : Shared) (H0 : Hp) (C : Addr) (cl : List (Str × Addr)) (fp : List Addr), b'.B = b.B → as[i]? = some a → IV (X.blk s H0 scope (compEnvC scope cl C X.env) fp) b' (ext a (wipC Γ (own.map (·.2)))) tg1 iter1 (bs a).length (IL S (bs a)))
    (hk : ∀ (b' : Bs) (i : Nat) (a : α) (j : Nat) (c : β), b'.B = b.B → as[i]? = some a → (bs a)[j]? = some c → ∃ (κ : Type) (Rk : Rl κ) (z : κ), (∀ (s : Shared) (H0 : Hp) (C : Addr) (cl : List (Str × Addr)) (fp : List Addr), EV (X.blk s H0 scope (compEnvC scope cl C X.env) fp) b' (ext1 c (wipC (ext a (wipC Γ (own.map (·.2)))) vs1)) kx (im Rk z)) ∧ ∀ F v, Rk.r F v z → v = kV (kf a c))
    (hx : ∀ (b' : Bs) (i : Nat) (a : α) (j : Nat) (c : β) (s : Shared) (H0 : Hp) (C : Addr) (cl : List (Str × Addr)) (fp : List Addr), b'.B = b.B → as[i]? = some a → (bs a)[j]? = some c → EV (X.blk s H0 scope (compEnvC scope cl C X.env) fp) b' (ext1 c (wipC (ext a (wipC Γ (own.map (·.2)))) vs1)) vx (im U (vf a c)))
    (hc : X.calm = true := by rfl) (hf : ∀ x, foldedSetIterable iter X.env x = pure x := by intro _; rfl) (hf1 : ∀ env x, foldedSetIterable iter1 env x = pure x := by intro _ _; rfl) : LV X b Γ (.DictComp kx vx [⟨tg, iter, [], 0⟩, ⟨tg1, iter1, [], 0⟩] scope pos) (owD U (as.foldl (fun kvs a => (bs a).foldl (fun kvs c => kput kvs (kf a c) (vf a c)) kvs) [])) := by
  obtain ⟨wi, p1, k1⟩ := hi
  have len1 : ∀ (a : α) (cs : List β) (d : List (Key × γ)), (cs.foldl (fun kvs c => kput kvs (kf a c) (vf a c)) d).length ≤ d.length + cs.length := by
    intro a cs
    induction cs with
    | nil => exact fun d => Nat.le_refl _
    | cons c cs ih =>
      intro d
      refine Nat.le_trans (ih _) ?_
      have : (kput d (kf a c) (vf a c)).length ≤ d.length + 1 := by unfold kput; split <;> simp
      rw [List.length_cons]
      show (kput d (kf a c) (vf a c)).length + cs.length ≤ _
      omega
  have len : ∀ (as : List α) (d : List (Key × γ)), (as.foldl (fun kvs a => (bs a).foldl (fun kvs c => kput kvs (kf a c) (vf a c)) kvs) d).length ≤ d.length + (as.flatMap bs).length := by
    intro as
    induction as with
    | nil => exact fun d => Nat.le_refl _
    | cons a as ih =>
      intro d
      refine Nat.le_trans (ih _) ?_
      rw [List.flatMap_cons, List.length_append]
      have := len1 a (bs a) d
      show ((bs a).foldl (fun kvs c => kput kvs (kf a c) (vf a c)) d).length + _ ≤ _
      omega
  refine ⟨_, pe_dc2 (own := own) (vs1 := vs1) (g := T.g) (g1 := T1.g) (tt := tYes) (tt1 := tYes) (wi1 := wIb X scope tg1 iter1) (tk := wEb X scope kx) (tv := wEb X scope vx) hc nd p1 (blkOk_by ok) hv T.pg (fun _ _ _ _ _ => pts_nil) (fun _ _ _ _ _ => pi_wb) T1.pg (fun _ _ _ _ _ => pts_nil) (fun _ _ _ _ _ => pe_wb) (fun _ _ _ _ _ => pe_wb) hf hf1, fun σ F H l g d Q q => ?_,
    fun i y py spos hi hy hsw => ps_setDc2 (own := own) (vs1 := vs1) (g := T.g) (g1 := T1.g) (tt := tYes) (tt1 := tYes) (wi1 := wIb X scope tg1 iter1) (tk := wEb X scope kx) (tv := wEb X scope vx) hc nd hi hy hsw p1 (blkOk_by ok) hv T.pg (fun _ _ _ _ _ => pts_nil) (fun _ _ _ _ _ => pi_wb) T1.pg (fun _ _ _ _ _ => pts_nil) (fun _ _ _ _ _ => pe_wb) (fun _ _ _ _ _ => pe_wb) hf hf1⟩
  refine k1 σ F H l g d _ fun J F1 H1 w hJ D hD => ?_
  obtain ⟨l2, s2, c0⟩ := com_start (o := .dK []) (own.map (·.2)) g d w hD
  exact gen2 (em := emD (wEb X scope kx) (wEb X scope vx)) (wi1 := wIb X scope tg1 iter1) StD.ok T T1 bs (fun kvs a c => kput kvs (kf a c) (vf a c)) (wipe_idem _ _) hJ c0 (d0 := []) ⟨[], upd_same, .nil⟩
    (fun b' i a hb ha σ F H l g d Rr q s H0 C cl fp => by
      obtain ⟨w1, p1, k1⟩ := hi1 b' i a s H0 C cl fp hb ha
      exact wI.of p1 (k1 σ F H l g d Rr q))
    (fun b' i a j c d hb ha hcj hd => by
      obtain ⟨κ, Rk, z, hz, hkk⟩ := hk b' i a j c hb ha hcj
      refine Emi.dict hz hkk (fun s H0 C cl fp => hx b' i a j c s H0 C cl fp hb ha hcj) ?_
      have hlt := (List.getElem?_eq_some_iff.mp ha).1
      have hjt := (List.getElem?_eq_some_iff.mp hcj).1
      have e : as = as.take i ++ a :: as.drop (i + 1) := by
        have h1 := List.take_append_drop i as
        rw [List.drop_eq_getElem_cons hlt, (List.getElem?_eq_some_iff.mp ha).2] at h1
        exact h1.symm
      have q1 := len (as.take i) []
      have q2 := len1 a ((bs a).take j) ((as.take i).foldl (fun kvs a => (bs a).foldl (fun kvs c => kput kvs (kf a c) (vf a c)) kvs) [])
      rw [e, List.flatMap_append, List.flatMap_cons, List.length_append, List.length_append] at hm
      rw [List.length_take] at q2
      rw [hd]
      simp only [List.length_nil] at q1
      omega)
    fun F' H' c ⟨xs, h, k⟩ => q (.ref D) F' H' [D] (w.trans c.w) ⟨D, xs, rfl, rfl, h, k⟩ fun a h => by rw [List.mem_singleton.mp h]; exact ⟨ex_none w.h hD, c.nF⟩
end
end Lg

namespace Lg
open PySem L2 Evl PyProof.Rows
section
variable {X : Cx} {b : Bs} {D : EndC} {Γ : Ctx} {α β γ : Type} {R : Rl α} {S : Rl β} {x : α} {ys : List β} {c : α × List β} {cs : List (α × List β)} {e e1 e2 : Expr} {es : List Expr} {pos np : Pos} {i : Int} {n : Str} {rest sts : List Stmt}
/-- (a, own list) -/
theorem EV.oprMk {k : Nat} (h1 : EV X b Γ e1 (im R x)) (h2 : EV X b Γ e2 (ow S ys)) (hs1 : starEach [e1, e2] X.env = (false, eval e1 X.env) :: starEach [e2] X.env := by rfl) (hs2 : starEach [e2] X.env = (false, eval e2 X.env) :: starEach [] X.env := by rfl) : EV X b Γ (.Tuple [e1, e2] k pos) (opr R S (x, ys)) :=
  EV.of (pe_tup (pa_cons pe_w (pa_cons pe_w pa_nil hs2) hs1)) fun σ F H l g d Q q => h1 σ F H l g d _ fun v F1 H1 l1 w1 p1 _ => h2 σ F1 H1 l (g.grow w1) (d.grow g.t w1) _ fun u F2 H2 l2 w2 ⟨r, xs, eu, el, hr, hxs⟩ fr => by
    subst eu el
    obtain ⟨fr1, fr2⟩ := fr r (List.mem_singleton.mpr rfl)
    refine ⟨Nat.le_of_lt (small1000 (show 2 ≤ 1000 by decide)), fun t ht => ?_⟩
    have tr : t ≠ r := fun z => by rw [z, hr] at ht; cases ht
    have ft : F2 t = none := ex_none w2.e ht
    refine q (.ref t) (upd F2 t (.tup [v, .ref r])) (upd H2 t (.tup [v, .ref r])) [r] ((w1.trans w2).trans (Gw.new w2.e ht)) ⟨t, v, r, xs, rfl, upd_same, R.m (w2.f.trans (Ex.new ft)) p1.2, rfl, by rw [upd_ne (fun z => tr z.symm)]; exact hr, hxs.imp fun _ _ => S.m (Ex.new ft)⟩ fun a ha => ?_
    rw [List.mem_singleton.mp ha, upd_ne (fun z => tr z.symm)]
    exact ⟨ex_none w1.h fr1, fr2⟩
theorem PL.getN {F H : Hp} {vs : List V} {qs : List Addr} (h : PL R S F H vs cs qs) : ∀ {j : Nat}, cs[j]? = some c → ∃ t r x ys, vs[j]? = some (.ref t) ∧ r ∈ qs ∧ F t = some (.tup [x, .ref r]) ∧ R.r F x c.1 ∧ H r = some (.lst ys) ∧ All2 (S.r F) ys c.2 := by
  induction h with
  | nil => intro j hj; simp at hj
  | cons h1 h2 h3 h4 _ ih =>
    intro j hj
    cases j with
    | zero =>
      simp at hj
      subst hj
      exact ⟨_, _, _, _, rfl, List.mem_cons_self, h1, h2, h3, h4⟩
    | succ j =>
      obtain ⟨t, r, x, ys, k1, k2, k⟩ := ih (j := j) (by simpa using hj)
      exact ⟨t, r, x, ys, by simpa using k1, List.mem_cons_of_mem _ k2, k⟩
theorem PL.at_ {F H : Hp} {vs : List V} {qs : List Addr} (h : PL R S F H vs cs qs) (ha : atI cs i = some c) : ∃ t r x ys, atI vs i = some (.ref t) ∧ r ∈ qs ∧ F t = some (.tup [x, .ref r]) ∧ R.r F x c.1 ∧ H r = some (.lst ys) ∧ All2 (S.r F) ys c.2 := by
  unfold atI at ha ⊢
  rw [h.len]
  cases q : ixN cs.length i with
  | none => rw [q] at ha; cases ha
  | some j =>
    rw [q] at ha
    exact h.getN ha
/-- l[i], l new -/
theorem EV.ixOP (h : EV X b Γ e1 (owP R S cs)) (hi : EV X b Γ e2 (im rI i)) (ha : atI cs i = some c) (hs : PlainIx e2 := by exact (fun _ _ => rfl)) : EV X b Γ (.Subscript e1 e2 pos) (opr R S c) :=
  EV.of (pe_ix ix_list pe_w pe_w hs) fun σ F H l g d Q q => h σ F H l g d _ fun v F1 H1 l1 w1 ⟨p, xs, qs, ev, el, nq, hp, hpl⟩ fr => hi σ F1 H1 l (g.grow w1) (d.grow g.t w1) _ fun u F2 H2 l2 w2 p2 _ => by
    subst el
    obtain ⟨t, r, z, ys, k1, k2, k3, k4, k5, k6⟩ := hpl.at_ ha
    obtain ⟨f1, f2⟩ := fr r (List.mem_cons_of_mem _ k2)
    refine ⟨p, xs, i, .ref t, ev, p2.2, SqL.of (w2.h p _ hp), k1, q (.ref t) F2 H2 [r] (w1.trans w2) ⟨t, z, r, ys, rfl, w2.f t _ k3, R.m w2.f k4, rfl, w2.h r _ k5, k6.imp fun _ _ => S.m w2.f⟩ fun a ha => ?_⟩
    rw [List.mem_singleton.mp ha]
    exact ⟨f1, w2.k r f2 (by rw [k5]; exact fun z => nomatch z)⟩
theorem EV.ixO1 {p2 : Pos} {k : Nat} (h : EV X b Γ e1 (opr R S c)) : EV X b Γ (.Subscript e1 (.Constant (.int 1) k p2) pos) (ow S c.2) :=
  EV.of (pe_ix ix_tup pe_w pe_w (fun _ _ => rfl)) fun σ F H l g d Q q => h σ F H l g d _ fun v F1 H1 l1 w1 ⟨t, x, r, ys, ev, h1, h2, h3, h4, h5⟩ fr => (EV.int (i := 1)) σ F1 H1 l (g.grow w1) (d.grow g.t w1) _ fun u F2 H2 l2 w2 p2 _ => by
    subst h3
    obtain ⟨f1, f2⟩ := fr r (List.mem_singleton.mpr rfl)
    refine ⟨t, _, 1, .ref r, ev, p2.2, SqT.of (w2.e t _ (w2.f t _ h1)), rfl, q (.ref r) F2 H2 [r] (w1.trans w2) ⟨r, ys, rfl, rfl, w2.h r _ h4, h5.imp fun _ _ => S.m w2.f⟩ fun a ha => ?_⟩
    rw [List.mem_singleton.mp ha]
    exact ⟨f1, w2.k r f2 (by rw [h4]; exact fun z => nomatch z)⟩
end
/-! ### one's own, told as data for a while -/
def NoG {β : Type} (M : HO → Prop) (S : Rl β) : Prop := ∀ {F F' : Hp} {v : V} {y : β}, (∀ a o, F a = some o → ¬ M o → F' a = some o) → S.r F v y → S.r F' v y
structure NF (M : HO → Prop) : Prop where
  f : ∀ o u, ¬ M (.frz o u)
  t : ∀ xs, ¬ M (.tup xs)
def isM (o : HO) : Prop := (∃ xs, o = .lst xs) ∨ ∃ ws, o = .dK ws
def isN (o : HO) : Prop := ∃ C dx fs, o = .ins C dx fs
theorem nf_M : NF isM := ⟨fun o u h => by rcases h with ⟨_, z⟩ | ⟨_, z⟩ <;> exact HO.noConfusion z, fun xs h => by rcases h with ⟨_, z⟩ | ⟨_, z⟩ <;> exact HO.noConfusion z⟩
theorem nf_N : NF isN := ⟨fun o u ⟨_, _, _, z⟩ => HO.noConfusion z, fun xs ⟨_, _, _, z⟩ => HO.noConfusion z⟩
section
variable {M : HO → Prop} {α β γ : Type} {R : Rl α} {S : Rl β} {T : Rl γ}
theorem NoG.int : NoG M rI := fun _ h => h
theorem NoG.bool : NoG M rB := fun _ h => h
theorem NoG.str : NoG M rS := fun _ h => h
theorem NoG.unit : NoG M rU := fun _ h => h
theorem NoG.opt (h : NoG M S) : NoG M (rO S) := fun {F F' v y} k q => by
  cases y with
  | none => exact q
  | some y => exact h k q
theorem NoG.lk (m : NF M) (h : NoG M R) : NoG M (rLK R) := fun k ⟨a, o, xs, h1, h2, h3⟩ => ⟨a, o, xs, h1, k a _ h2 (m.f _ _), h3.imp fun _ _ => h k⟩
theorem NoG.dk (m : NF M) (h : NoG M S) : NoG M (rDK S) := fun k ⟨a, o, ws, h1, h2, h3⟩ => ⟨a, o, ws, h1, k a _ h2 (m.f _ _), h3.imp fun _ _ => h k⟩
theorem NoG.tup (m : NF M) (h : NoG M R) : NoG M (rT R) := fun k ⟨a, xs, h1, h2, h3⟩ => ⟨a, xs, h1, k a _ h2 (m.t _), h3.imp fun _ _ => h k⟩
theorem NoG.pair (m : NF M) (h : NoG M R) (h' : NoG M S) : NoG M (rP R S) := fun k ⟨a, x, y, h1, h2, h3, h4⟩ => ⟨a, x, y, h1, k a _ h2 (m.t _), h k h3, h' k h4⟩
theorem NoG.tri (m : NF M) (h : NoG M R) (h' : NoG M S) (h'' : NoG M T) : NoG M (rP3 R S T) := fun k ⟨a, x, y, z, h1, h2, h3, h4, h5⟩ => ⟨a, x, y, z, h1, k a _ h2 (m.t _), h k h3, h' k h4, h'' k h5⟩
theorem Fls.noG {F F' : Hp} (k : ∀ a o, F a = some o → ¬ M o → F' a = some o) {ws : List (Str × V)} {xs : List (Str × Im)} (h : ∀ p ∈ xs, NoG M p.2.R) (t : Fls F ws xs) : Fls F' ws xs := by
  induction t with
  | nil => exact .nil
  | cons a _ ih => exact .cons (h _ List.mem_cons_self k a) (ih fun p hp => h p (List.mem_cons_of_mem _ hp))
theorem NoG.obj {D : Addr} {fs : α → List (Str × Im)} (h : ∀ x, ∀ p ∈ fs x, NoG isM p.2.R) : NoG isM (rObj D fs) := fun k ⟨a, dx, ws, h1, h2, h3⟩ => ⟨a, dx, ws, h1, k a _ h2 (fun z => by rcases z with ⟨_, z⟩ | ⟨_, z⟩ <;> exact HO.noConfusion z), Fls.noG k (h _) h3⟩
/-- s, told as data -/
def Frz {α : Type} (M : HO → Prop) (s : Sl) (R : Rl α) (a : α) : Prop := ∀ {F H : Hp} {v : V} {l : List Addr}, s.P F H v l → (∀ c ∈ l, F c = none) → Ex F H → ∃ F1, Ex F F1 ∧ Ex F1 H ∧ (∀ c, c ∉ l → F1 c = F c) ∧ (∀ c ∈ l, ∃ o, F1 c = some o ∧ M o) ∧ R.r F1 v a
theorem Gw.hideL {F H F1 F' H' : Hp} {l : List Addr} (fl : ∀ c ∈ l, F c = none) (hl : ∀ c ∈ l, H c ≠ none) (e1 : ∀ c, c ∉ l → F1 c = F c) (w : Gw F1 H F' H') : Gw F H (fun a => if a ∈ l then none else F' a) H' := by
  refine ⟨fun a u ha => ?_, w.h, fun a u ha => ?_, fun a h1 h2 => ?_⟩
  · have z : a ∉ l := fun z => by rw [fl a z] at ha; cases ha
    show (if a ∈ l then none else F' a) = some u
    rw [if_neg z]
    exact w.f a u (by rw [e1 a z]; exact ha)
  · have ha : (if a ∈ l then none else F' a) = some u := ha
    by_cases z : a ∈ l
    · rw [if_pos z] at ha; cases ha
    · rw [if_neg z] at ha; exact w.e a u ha
  · show (if a ∈ l then none else F' a) = none
    by_cases z : a ∈ l
    · rw [if_pos z]
    · rw [if_neg z]; exact w.k a (by rw [e1 a z]; exact h1) h2
theorem lendG {b : Bs} {Γ : Ctx} {σ : L2.St} {F H : Hp} {l : List Addr} {s : Sl} {a : α} (i : Nat) (hΓ : Γ[i]? = some (some s)) (hs : Frz M s R a) (g : SgL F H Γ σ l) (d : Gd b F H l) :
    ∃ (l1 l2 : List Addr) (F1 : Hp), (∀ c ∈ l1, F c = none) ∧ (∀ c ∈ l1, H c ≠ none) ∧ (∀ c, c ∉ l1 → F1 c = F c) ∧ (∀ c ∈ l1, ∃ o, F1 c = some o ∧ M o) ∧ SgL F1 H (Γ.set i (some (im R a))) σ l2 ∧ Gd b F1 H l2 := by
  obtain ⟨v, l1, h1, hp, h6, h7⟩ := g.frz d.nd hΓ
  have fl : ∀ c ∈ l1, F c = none := fun c hc => d.of c (h6 c hc)
  obtain ⟨F1, q1, q2, q3, q4, q5⟩ := hs hp fl d.e
  obtain ⟨l2, k1, k2, k3⟩ := h7 F1 (im R a) q1 ⟨rfl, q5⟩
  refine ⟨l1, l2, F1, fl, s.t hp, q3, q4, k1, d.ef.trans q1, d.eb, q2, fun c c1 c2 => ?_, k2, fun c hc => ?_, fun c hc => d.ob c (k3 c hc).1⟩
  · rw [q3 c fun z => c2 (d.ob c (h6 c z))]; exact d.k c c1 c2
  · rw [q3 c (k3 c hc).2]; exact d.of c (k3 c hc).1
variable {X : Cx} {b : Bs} {Γ : Ctx} {e : Expr} {s : Sl} {a : α} {y : β}
theorem EV.lendG (i : Nat) (hΓ : Γ[i]? = some (some s)) (hs : Frz M s R a) (hS : NoG M S) (h : EV X b (Γ.set i (some (im R a))) e (im S y)) : EV X b Γ e (im S y) := fun σ F H l g d Q q => by
  obtain ⟨l1, l2, F1, f1, h1, e1, m1, g2, d2⟩ := Lg.lendG i hΓ hs g d
  refine h σ _ H l2 g2 d2 Q fun v F' H' l' w ⟨z1, z2⟩ _ => ?_
  subst z1
  refine q v _ H' [] (Gw.hideL f1 h1 e1 w) ⟨rfl, hS (fun c o hc no => ?_) z2⟩ fun _ z => nomatch z
  show (if c ∈ l1 then none else F' c) = some o
  rw [if_neg fun z => ?_]
  · exact hc
  · obtain ⟨o', ho, hm⟩ := m1 c z
    rw [w.f c _ ho] at hc
    cases hc
    exact no hm
theorem TV.lendG {c : Bool} (i : Nat) (hΓ : Γ[i]? = some (some s)) (hs : Frz M s R a) (h : TV X b (Γ.set i (some (im R a))) e c) : TV X b Γ e c := fun σ F H l g d Q q => by
  obtain ⟨l1, l2, F1, f1, h1, e1, m1, g2, d2⟩ := Lg.lendG i hΓ hs g d
  exact h σ _ H l2 g2 d2 Q fun F' H' w => q _ H' (Gw.hideL f1 h1 e1 w)
/-- what comes new is frozen -/
theorem EV.fzG (h : EV X b Γ e s) (hs : Frz M s R a) : EV X b Γ e (im R a) := EvS.mki fun σ F H l g d Q q => h σ F H l g d Q fun v F' H' l' w p f => by
  obtain ⟨F1, q1, q2, q3, q4, q5⟩ := hs p (fun c hc => (f c hc).2) w.e
  refine q v F1 H' ⟨w.f.trans q1, w.h, q2, fun c c1 c2 => ?_⟩ q5
  rw [q3 c fun z => c2 (f c z).1]; exact w.k c c1 c2
theorem Frz.ow {as : List α} : Frz isM (ow R as) (rL R) as := fun {F H v l} ⟨p, xs, h1, h2, h3, h4⟩ fl e => by
  subst h2
  have fp := fl p (List.mem_singleton.mpr rfl)
  refine ⟨upd F p (.lst xs), Ex.new fp, fun c u hc => ?_, fun c hc => upd_ne fun z => hc (List.mem_singleton.mpr z), fun c hc => ⟨.lst xs, by rw [List.mem_singleton.mp hc]; exact upd_same, .inl ⟨xs, rfl⟩⟩, p, xs, h1, upd_same, h4.imp fun _ _ => R.m (Ex.new fp)⟩
  by_cases z : c = p
  · subst z; rw [upd_same] at hc; rw [h3]; exact hc
  · rw [upd_ne z] at hc; exact e c u hc
end
end Lg

/-! set(texts), by the library's way for ints -/
namespace Sx
open PySem PySem.Spec PyProof.Rows
/-- each once, as first met -/
def dd (xs : List Str) : List Str := xs.foldl (fun d x => if x ∈ d then d else d ++ [x]) []
theorem dd_snoc (xs : List Str) (x : Str) : dd (xs ++ [x]) = if x ∈ dd xs then dd xs else dd xs ++ [x] := by
  unfold dd
  rw [List.foldl_append]; rfl
theorem dd_all : ∀ n (xs : List Str), xs.length = n → (dd xs).length ≤ n ∧ ∀ y, y ∈ dd xs ↔ y ∈ xs
  | 0, xs, h => by
    obtain rfl := List.length_eq_zero_iff.mp h
    exact ⟨Nat.le_refl _, fun y => Iff.rfl⟩
  | n + 1, xs, h => by
    have hne : xs ≠ [] := fun z => by rw [z] at h; cases h
    have e : xs = xs.dropLast ++ [xs.getLast hne] := (List.dropLast_concat_getLast _).symm
    have hd : xs.dropLast.length = n := by rw [List.length_dropLast, h]; rfl
    generalize xs.getLast hne = x at e
    generalize xs.dropLast = ys at e hd
    obtain ⟨h1, h2⟩ := dd_all n ys hd
    rw [e, dd_snoc]
    by_cases q : x ∈ dd ys
    · rw [if_pos q]
      refine ⟨by omega, fun y => ?_⟩
      rw [h2, List.mem_append, List.mem_singleton]
      exact ⟨.inl, fun z => z.elim id fun z => z ▸ (h2 x).mp q⟩
    · rw [if_neg q]
      refine ⟨by rw [List.length_append]; exact Nat.add_le_add_right h1 1, fun y => ?_⟩
      rw [List.mem_append, List.mem_append, h2]
theorem dd_len (xs : List Str) : (dd xs).length ≤ xs.length := (dd_all _ xs rfl).1
theorem dd_mem (xs : List Str) (k : Str) : (dd xs).any (· == k) = xs.any (· == k) := by
  rw [Bool.eq_iff_iff, List.any_eq_true, List.any_eq_true]
  exact ⟨fun ⟨x, h1, h2⟩ => ⟨x, ((dd_all _ xs rfl).2 x).mp h1, h2⟩, fun ⟨x, h1, h2⟩ => ⟨x, ((dd_all _ xs rfl).2 x).mpr h1, h2⟩⟩
section
variable {prog : Program} {w : World} {A : Around} {R : Result → Shared → Prop} {I : Addr} {fp wr : List Addr} {G : Array GenState → Array GenState → Prop} {n : Nat} {P : Nat → Value → Prop} {St : Nat → Shared → Prop}
theorem set_strs (W : WalksS prog w A.in1 I fp wr G n P St) (S : Addr) (hSf : S ∉ fp) (xs : List Str) (hsz : xs.length = n) (hn1 : n + 1 < scanBound)
    (hval : ∀ i v, P i v → ∃ t, v = .str (xs.getD i Str.empty) t) (k : Nat) :
    ∀ (i : Nat) (s : Shared), n - i = k → i ≤ n → St i s →
      s.heap.SetOf (PySem.strKind prog w) S (fun k' => (dd (xs.take i)).any (· == k')) (dd (xs.take i)).length →
      (∀ s', Moved (S :: wr) G s s' → s'.heap.SetOf (PySem.strKind prog w) S (fun k' => (dd (xs.take n)).any (· == k')) (dd (xs.take n)).length → R (.ok (.ret .none)) s') →
      codeAny (model prog w) A (.builtin "set.update.loop" ⟨[.ref S, .ref I], []⟩) R s := by
  have out : S ∉ wr := fun h => hSf (W.sub _ h)
  have more : ∀ c ∈ wr, c ∈ S :: wr := fun c hc => List.mem_cons_of_mem _ hc
  have keep : ∀ {z z' : Shared} {i : Nat}, Moved wr G z z' → z.heap.SetOf (PySem.strKind prog w) S (fun k' => (dd (xs.take i)).any (· == k')) (dd (xs.take i)).length → z'.heap.SetOf (PySem.strKind prog w) S (fun k' => (dd (xs.take i)).any (· == k')) (dd (xs.take i)).length := fun hm ⟨o, es, ep, t, ho, rest⟩ => ⟨o, es, ep, t, hm.heap S _ out ho, rest⟩
  induction k with
  | zero =>
    intro i s hk hi hst hS hR
    obtain rfl : i = n := by omega
    refine codeAny_builtin PyProof.Rows.F.entry_set_update_loop ?_
    rw [Around.under_plainId PyProof.Rows.F.plain_set_update_loop _]
    show wpAny _ A.in1 (pyNext (.ref I) >>= _) _ _ s
    refine wpAny_bind (W.done s _ _ hst fun z hm => ?_)
    show wpAny _ A.in1 (ret Value.none) _ _ z
    exact wpAny_pure (hR z (hm.mono more) (keep hm hS))
  | succ k ih =>
    intro i s hk hi hst hS hR
    have lt : i < n := by omega
    refine codeAny_builtin PyProof.Rows.F.entry_set_update_loop ?_
    rw [Around.under_plainId PyProof.Rows.F.plain_set_update_loop _]
    show wpAny _ A.in1 (pyNext (.ref I) >>= _) _ _ s
    refine wpAny_bind (W.item i s _ _ lt hst fun v z hP hst' hm => ?_)
    obtain ⟨t, rfl⟩ := hval i v hP
    have hz := keep hm hS
    show wpAny _ A.in1 (holding [Value.str (xs.getD i Str.empty) t] (setAdd S (.str (xs.getD i Str.empty) t)) >>= _) _ _ z
    refine wpAny_bind (wpAny_holding ?_)
    unfold setAdd
    refine wpAny_holding (wpAny_bind ((PySem.strKind prog w).pyHash (k := xs.getD i Str.empty) (strKind_is _ _ _ _) ?_))
    have small : (dd (xs.take i)).length ≤ i := Nat.le_trans (dd_len _) (by rw [List.length_take]; omega)
    refine wpAny_setAddHashed_of (knd := PySem.strKind prog w) (s := { z with toks := z.toks + 1 }) (strKind_is _ _ _ _) rfl hz (by omega) fun h' hsb hS2 => ?_
    have next : h'.SetOf (PySem.strKind prog w) S (fun k' => (dd (xs.take (i + 1))).any (· == k')) (dd (xs.take (i + 1))).length := by
      have e : xs.take (i + 1) = xs.take i ++ [xs.getD i Str.empty] := by
        rw [List.take_add_one, List.getElem?_eq_getElem (by omega), List.getD_eq_getElem?_getD, List.getElem?_eq_getElem (by omega)]; rfl
      refine SetOf_congr hS2 (fun k' => ?_) ?_
      · rw [e, dd_mem, dd_mem, List.any_append]
        show ((xs.take i).any (· == k') || decide (k' = xs.getD i Str.empty)) = ((xs.take i).any (· == k') || ((xs.getD i Str.empty == k') || false))
        rw [Bool.or_false]
        congr 1
        by_cases q : k' = xs.getD i Str.empty
        · rw [decide_eq_true q, q, beq_self_eq_true]
        · rw [decide_eq_false q, beq_eq_false_iff_ne.mpr fun z => q z.symm]
      · rw [e, dd_snoc]
        by_cases q : xs.getD i Str.empty ∈ dd (xs.take i)
        · rw [if_pos q]
          simp only [List.any_eq_true, beq_iff_eq]
          rw [if_pos ⟨_, q, rfl⟩]
        · rw [if_neg q]
          simp only [List.any_eq_true, beq_iff_eq]
          rw [if_neg fun ⟨c, h1, h2⟩ => q (h2 ▸ h1), List.length_append]; rfl
    refine wpAny_pure ⟨plainId_quiet PyProof.Rows.F.plain_set_update_loop _, ih (i + 1) _ (by omega) lt (W.frame _ z _ _ hst' (Nat.le_succ _) fun c hc o e => ?_) next fun y hm' hy => ?_⟩
    · rw [hsb.2 c (fun h : c = S => hSf (by rw [← h]; exact hc))]; exact e
    · refine hR y (Moved.trans W.gtrans ((hm.mono more).then_heap (Nat.le_succ _) fun c o hc e => ?_) hm') hy
      rw [hsb.2 c (fun h : c = S => hc (by rw [h]; exact List.mem_cons_self))]; exact e
end

section
variable {prog : Program} {w : World} {A : Around} {E : Value → Shared → Prop} {s : Shared}
set_option maxHeartbeats 3200000 in
theorem set_of_strs {l : Addr} {items : Array Value} {xs : List Str} {Q : Value → Shared → Prop}
    (hh : A.handled = none) (hl : s.heap.IsList l items) (hi : PyProof.Rows.StrsAre items.toList xs) (hn1 : xs.length + 1 < scanBound)
    (h : ∀ (h' : Heap) (tk : Nat), h'.SetOf (PySem.strKind prog w) s.heap.objs.size (fun k' => (dd (xs.take items.size)).any (· == k')) (dd (xs.take items.size)).length →
      (∀ b o, b < s.heap.objs.size → s.heap.get? b = some o → h'.get? b = some o) → Q (.ref s.heap.objs.size) { s with heap := h', toks := tk }) :
    wpAny (model prog w) A (call (.type "set") [.ref l]) Q E s := by
  obtain ⟨c, tl, hmro⟩ := PySem.F.called_set.mro
  have hmade := PySem.F.called_set.made
  have hsub := PySem.F.called_set.sub
  refine wpAny_call (codeAny_of_tree ?_)
  show wpAny _ _ (callAny (.type "set") _) _ _ _
  refine wpAny_pure ⟨Code.quiet_builtin _ (by decide +kernel), codeAny_builtin PySem.F.entry_type_call ?_⟩
  rw [Around.under_plain (weight_type_call_type "set" [.ref l] []) rfl]
  have h1 := PySem.F.called_set.notType
  have h2 := PySem.F.called_set.canCreate
  have hct := PySem.F.typeCall_set_1 (.ref l)
  repeat (any_goals (first | assumption | wp_step))

  refine codeAny_mono (code_set_new_1 (.ref l) (E := E) (Q₁ := fun obj s₁ => ∃ led : Bool, obj = .ref s.heap.objs.size ∧ s₁ = { s with heap := s.heap.push { cls := .type "set", dict := none, data := .set #[] 0 (.fresh 0 0 led) } }) fun led => ⟨led, rfl, rfl⟩) fun r s₁ hr => ?_
  cases r with
  | error e => exact hr
  | ok fl =>
    cases fl with
    | ret obj =>
      obtain ⟨led, rfl, rfl⟩ := hr
      have hS : (s.heap.push { cls := .type "set", dict := none, data := .set #[] 0 (.fresh 0 0 led) }).get? s.heap.objs.size = some { cls := .type "set", dict := none, data := .set #[] 0 (.fresh 0 0 led) } := Heap.get?_push_size _ rfl
      have hT : Shared.TypeIs { s with heap := s.heap.push { cls := .type "set", dict := none, data := .set #[] 0 (.fresh 0 0 led) } } (.ref s.heap.objs.size) "set" := ⟨_, hS, rfl⟩
      have hli := PySem.F.called_set.init.lookup
      have hbi := PySem.F.called_set.init.bind (.ref s.heap.objs.size)
      repeat (any_goals (first | assumption | wp_step))

      refine codeAny_mono (codeAny_call_builtin (R := wants (fun r z2 => r = .none ∧ ∃ h' tk, z2 = { s with heap := h', toks := tk } ∧
          h'.SetOf (PySem.strKind prog w) s.heap.objs.size (fun k' => (dd (xs.take items.size)).any (· == k')) (dd (xs.take items.size)).length ∧
          (∀ b o, b < s.heap.objs.size → s.heap.get? b = some o → h'.get? b = some o)) E) PySem.F.called_set.init.plain PySem.F.entry_set_init (check_set_init_1 hT ?_)) fun rr z2 kr => ?_
      · obtain ⟨ol, hol, hcl, nl, hdl⟩ := hl
        obtain ⟨ocls, odict, odata, oslots⟩ := ol
        simp only at hcl hdl
        subst hcl; subst hdl
        have hol' : (s.heap.push { cls := .type "set", dict := none, data := .set #[] 0 (.fresh 0 0 led) }).get? l = some { cls := .type "list", dict := odict, data := .seq items nl, slots := oslots } := Heap.get?_push_of_some _ hol
        have hsls := PySem.F.sub_list_set
        have hslf := PySem.F.sub_list_frozenset
        have hne : (Value.type "list" == Value.type "dict") = false := by decide
        have hl1 : (s.heap.push { cls := .type "set", dict := none, data := .set #[] 0 (.fresh 0 0 led) }).IsList l items := ⟨_, hol', rfl, nl, rfl⟩
        unfold Builtin.«set.__init__» noKeywords Builtin.Frozenset.updateFrom
        generalize hPI : pyIter = PI
        wp_walk
        subst hPI

        refine wpAny_pyIter_list hl1 ?_
        refine wpAny_bind (wpAny_runValue ?_)
        have hlS : l < s.heap.objs.size := Heap.lt_size hol
        have hh3 : A.in1.in1.in1.handled = none := by simp [hh]
        have hneI : l ≠ (s.heap.push { cls := .type "set", dict := none, data := .set #[] 0 (.fresh 0 0 led) }).objs.size := by
          rw [Heap.size_push]; exact Nat.ne_of_lt (Nat.lt_succ_of_lt hlS)
        have hSf : s.heap.objs.size ∉ [(s.heap.push { cls := .type "set", dict := none, data := .set #[] 0 (.fresh 0 0 led) }).objs.size, l] := by
          rw [Heap.size_push]; simp only [List.mem_cons, List.mem_singleton, List.not_mem_nil, or_false, not_or]
          exact ⟨Nat.ne_of_lt (Nat.lt_succ_self _), Nat.ne_of_gt hlS⟩
        have hsz : xs.length = items.size := by rw [← StrsAre.len_eq hi, Array.length_toList]
        have hval : ∀ (i : Nat) (v : Value), items[i]? = some v → ∃ t, v = .str (xs.getD i Str.empty) t := fun i v hv => SS.strs_at hi i v (by rw [Array.getElem?_toList]; exact hv)
        refine set_strs ((Walks.list hh3 _ l hneI items).toS) s.heap.objs.size
          hSf xs hsz (by rw [← hsz]; exact hn1) hval (items.size - 0) 0 _ (by omega) (Nat.zero_le _)
          ⟨⟨_, Heap.get?_push_size _ rfl, rfl, rfl⟩, (hl1.push _)⟩ ?hS0 ?hR
        case hS0 =>
          have hget : ((s.heap.push { cls := .type "set", dict := none, data := .set #[] 0 (.fresh 0 0 led) }).push { cls := .type "list_iterator", data := .fields #[.ref l, .int 0 0] }).get? s.heap.objs.size
              = some { cls := .type "set", dict := none, data := .set #[] 0 (.fresh 0 0 led) } := Heap.get?_push_of_some _ hS
          exact PyProof.Rows.SetOf_congr ((PyProof.Rows.setObjOf_fresh (knd := PySem.strKind prog w) led).setOf hget (by unfold scanBound; omega)) (fun _ => rfl) rfl
        case hR =>
          intro s' hm hS'
          obtain ⟨h', g9, d9, t9, o9⟩ := s'
          have eg : g9 = s.gens := hm.gens
          have ed : d9 = s.drawn := hm.drawn
          have eo : o9 = s.os := hm.os
          subst eg; subst ed; subst eo
          show wpAny _ _ _ _ _ _
          refine wpAny_pure ?_
          show wpAny _ _ (ret Value.none) _ _ _
          refine wpAny_pure ⟨rfl, h', t9, rfl, hS', fun b o hb e => ?_⟩
          have hb1 : b ≠ s.heap.objs.size := Nat.ne_of_lt hb
          have hb2 : b ≠ (s.heap.push { cls := .type "set", dict := none, data := .set #[] 0 (.fresh 0 0 led) }).objs.size := by
            rw [Heap.size_push]; exact Nat.ne_of_lt (Nat.lt_succ_of_lt hb)
          exact hm.heap b o (by simp only [List.mem_cons, List.mem_singleton, List.not_mem_nil, or_false, not_or]; exact ⟨hb1, hb2⟩) (Heap.get?_push_of_some _ (Heap.get?_push_of_some _ e))

      · cases rr with
        | error e => exact kr
        | ok fk =>
          cases fk with
          | ret r =>
            obtain ⟨rfl, h', tk, rfl, hS', hk'⟩ := kr
            repeat (any_goals (first | assumption | wp_step))
            exact h _ _ hS' hk'
          | _ => exact kr.elim
    | _ => exact hr.elim
end
end Sx

namespace Lg
open PySem L2 Evl PyProof.Rows
section
variable {X : Cx} {b : Bs} {D : EndC} {Γ : Ctx} {α β γ : Type} {R : Rl α} {S : Rl β} {x : α} {y : β} {c : α × List β} {cs : List (α × List β)} {e e1 e2 a : Expr} {es : List Expr} {pos np p p2 q0 : Pos} {i : Int} {n : Str} {rest sts : List Stmt}
/-- len(set(texts)) -/
theorem EV.lenSet {L : Rl (List Str)} {ys : List Str} (hL : Lis L rS) (ha : EV X b Γ a (im L ys)) (hz : ys.length < 60) (hc : X.calm = true) (hm : X.mg "len" = none) (hm2 : X.mg "set" = none) (hg : Gl X "len" := by rfl) (hg2 : Gl X "set" := by rfl)
    (na : starEach [a] X.env = (false, eval a X.env) :: starEach [] X.env := by rfl) : EV X b Γ (.Call (.Name "len" p) [.Call (.Name "set" p2) [a] [] q0] [] pos) (im rI ((Sx.dd ys).length : Int)) := by
  refine EV.of (te := fun σ H Q => wE X a σ H fun x H1 => ∃ l : Addr, x = .ref l ∧ SqL X.K H1 l (ys.map V.str) ∧ Q (.int ((Sx.dd ys).length : Int)) H1) ⟨fun pins s σ H Q I h => ?_⟩ (EvS.mki fun σ F H l g d Q q => ha σ F H l g d _ fun v F1 H1 l1 w1 ⟨_, h⟩ _ => ?_)
  · refine Call_ (ld_blt I hg hm boot_len ?_)
    refine PyProof.Rows.callWith_builtin1 (PyProof.Rows.args_cons ?_ rfl) rfl rfl
    refine Call_ (ld_blt I hg2 hm2 boot_set ?_)
    refine PyProof.Rows.callWith_type1 (PyProof.Rows.args_cons (thn (h pins s I) fun v s1 ⟨x, H1, I1, r1, q1⟩ => PyProof.Rows.args_nil ?_) na) na rfl
    obtain ⟨l, rfl, hq, q1⟩ := q1
    cases r1
    obtain ⟨its, r, pl, hz1⟩ := I1.list hq
    have hl : its.toArray.size = ys.length := by rw [List.size_toArray, ← r.length, List.length_map]
    refine Sx.set_of_strs (I1.ok.hd hc) pl.isList (by simpa using strsAre_of r) (by unfold scanBound; omega) fun h' tk hS hk => PyProof.Rows.args_nil ?_
    rw [hl, List.take_length] at hS
    obtain ⟨o, es, ep, t, ho, hex, hd, _, _, _, hf, hn⟩ := hS
    have I2 : Inv X pins σ H1 { s1 with heap := h', toks := tk } := I1.kept fun b o e => hk b o (Heap.lt_size e) e
    have := Sx.dd_len ys
    exact call_len_set ho hex hd hf (by rw [hn] <;> omega) ⟨.int ((Sx.dd ys).length : Int), H1, I2.tok _, ⟨_, by rw [hn]⟩, q1⟩
  · obtain ⟨l, xs, rfl, h2, h3⟩ := hL h
    have hxs := Flat.str.all h3
    subst hxs
    exact ⟨l, rfl, sq_ex w1.e h2, q _ F1 H1 w1 rfl⟩
end
/-! sorted texts, compared -/
theorem lt_ir : ∀ a : List Nat, Spec.ltCps a a = false
  | [] => rfl
  | x :: r => by show (decide (x < x) || (x == x && Spec.ltCps r r)) = false; rw [lt_ir r, decide_eq_false (Nat.lt_irrefl x)]; simp
theorem lt_tri : ∀ a b : List Nat, Spec.ltCps a b = false → Spec.ltCps b a = false → a = b
  | [], [], _, _ => rfl
  | [], _ :: _, h, _ => absurd (show true = false from h) (by decide)
  | _ :: _, [], _, h => absurd (show true = false from h) (by decide)
  | x :: r, y :: t, h1, h2 => by
    have h1 : (decide (x < y) || (x == y && Spec.ltCps r t)) = false := h1
    have h2 : (decide (y < x) || (y == x && Spec.ltCps t r)) = false := h2
    simp only [Bool.or_eq_false_iff, decide_eq_false_iff_not, Bool.and_eq_false_iff] at h1 h2
    have e : x = y := by omega
    subst e
    rw [lt_tri r t (h1.2.resolve_left (by simp)) (h2.2.resolve_left (by simp))]
theorem lt_tr : ∀ a b c : List Nat, Spec.ltCps b a = false → Spec.ltCps c b = false → Spec.ltCps c a = false
  | [], _, c, _, _ => by cases c <;> rfl
  | x :: r, [], _, h, _ => absurd (show true = false from h) (by decide)
  | x :: r, y :: t, [], _, h => absurd (show true = false from h) (by decide)
  | x :: r, y :: t, z :: u, h1, h2 => by
    have h1 : (decide (y < x) || (y == x && Spec.ltCps t r)) = false := h1
    have h2 : (decide (z < y) || (z == y && Spec.ltCps u t)) = false := h2
    show (decide (z < x) || (z == x && Spec.ltCps u r)) = false
    simp only [Bool.or_eq_false_iff, decide_eq_false_iff_not, Bool.and_eq_false_iff, beq_eq_false_iff_ne] at h1 h2 ⊢
    refine ⟨by omega, ?_⟩
    by_cases e : z = x
    · refine .inr (lt_tr r t u ?_ ?_)
      · exact h1.2.resolve_left fun q => q (by omega)
      · exact h2.2.resolve_left fun q => q (by omega)
    · exact .inl e
theorem rising_all : ∀ (l : List Str) (p : Str), risingS p l = true → (∀ x ∈ l, Spec.ltCps x.cps.toList p.cps.toList = false) ∧ sortedS l = true
  | [], p, _ => ⟨fun _ h => (nomatch h), rfl⟩
  | x :: l, p, h => by
    have h : (!Spec.ltCps x.cps.toList p.cps.toList && risingS x l) = true := h
    rw [Bool.and_eq_true, Bool.not_eq_true'] at h
    obtain ⟨h1, h2⟩ := rising_all l x h.2
    exact ⟨fun y hy => (List.mem_cons.mp hy).elim (fun z => z ▸ h.1) fun z => lt_tr _ _ _ h.1 (h1 y z), h.2⟩
/-- sorted texts with the same members are the same -/
theorem sorted_uni : ∀ (xs ys : List Str), sortedS xs = true → sortedS ys = true → xs.Perm ys → xs = ys
  | [], ys, _, _, h => by rw [List.nil_perm.mp h]
  | x :: xs, [], _, _, h => absurd h.length_eq (by simp)
  | x :: xs, y :: ys, h1, h2, h => by
    obtain ⟨a1, a2⟩ := rising_all xs x h1
    obtain ⟨b1, b2⟩ := rising_all ys y h2
    have hx : x ∈ y :: ys := h.subset List.mem_cons_self
    have hy : y ∈ x :: xs := h.symm.subset List.mem_cons_self
    have e : x = y := by
      have p1 : Spec.ltCps x.cps.toList y.cps.toList = false := (List.mem_cons.mp hx).elim (fun z => z ▸ lt_ir _) (b1 x)
      have p2 : Spec.ltCps y.cps.toList x.cps.toList = false := (List.mem_cons.mp hy).elim (fun z => z ▸ lt_ir _) (a1 y)
      exact cs_ext (lt_tri _ _ p1 p2)
    subst e
    rw [sorted_uni xs ys a2 b2 (List.Perm.cons_inv h)]
section
variable {X : Cx} {b : Bs} {Γ : Ctx} {e1 e2 : Expr} {pos p p2 p3 p4 : Pos} {as bs : List Str} {L M : Rl (List Str)}
theorem EV.eqSorted (hL : Lis L rS) (hM : Lis M rS) (ha : EV X b Γ e1 (im L as)) (hb : EV X b Γ e2 (im M bs)) (h1 : as.length < 64) (h2 : bs.length < 64) (o1 : ∀ z ∈ as, PyData.strOk z = true) (o2 : ∀ z ∈ bs, PyData.strOk z = true) (hu : X.A.units + 64 < cLine) (hm : X.mg "sorted" = none) (hg : Gl X "sorted" := by rfl)
    (n1 : starEach [e1] X.env = (false, eval e1 X.env) :: starEach [] X.env := by rfl) (n2 : starEach [e2] X.env = (false, eval e2 X.env) :: starEach [] X.env := by rfl) :
    EV X b Γ (.Compare (.Call (.Name "sorted" p) [e1] [] p2) [.Eq] [.Call (.Name "sorted" p3) [e2] [] p4] pos) (im rB (decide (as.Perm bs))) := by
  refine EV.of (pe_cmpR (op_eqD hu) (pe_callB cr_sortedS hg hm (by decide +kernel) (pa_cons pe_w pa_nil n1) (he := n1) (hpl := rfl)) (pe_callB cr_sortedS hg hm (by decide +kernel) (pa_cons pe_w pa_nil n2) (he := n2) (hpl := rfl)) (nomark _)) (EvS.mki fun σ F H l g d Q q => ?_)
  refine ha σ F H l g d _ fun v F1 H1 l1 w1 ⟨_, k1⟩ _ => ?_
  obtain ⟨c1, xs, rfl, k2, k3⟩ := hL k1
  have hxs := Flat.str.all k3
  subst hxs
  refine ⟨c1, as, rfl, sq_ex w1.e k2, h1, fun ys1 r1 hp1 hs1 hr1 => ?_⟩
  have w2 := w1.trans (Gw.own (o := .lst (ys1.map V.str)) w1.e hr1)
  refine hb σ F1 _ l (g.grow w2) (d.grow g.t w2) _ fun v2 F3 H3 l3 w3 ⟨_, k4⟩ _ => ?_
  obtain ⟨c2, xs, rfl, k5, k6⟩ := hM k4
  have hxs := Flat.str.all k6
  subst hxs
  refine ⟨c2, bs, rfl, sq_ex w3.e k5, h2, fun ys2 r2 hp2 hs2 hr2 => ?_⟩
  have w4 := w3.trans (Gw.own (o := .lst (ys2.map V.str)) w3.e hr2)
  have c1' : (upd H3 r2 (.lst (ys2.map V.str))) r1 = some (.lst (ys1.map V.str)) := w4.h r1 _ upd_same
  have dp : ∀ zs : List Str, All2 (rS.r F3) (zs.map V.str) zs := fun zs => by
    induction zs with
    | nil => exact .nil
    | cons z zs ih => exact .cons rfl ih
  have D1 : Dp X.K (upd H3 r2 (.lst (ys2.map V.str))) (.ref r1) (.list (ys1.map PyData.str)) := .lst (SqL.of c1') (Dw.str.dpAll (dp ys1))
  have D2 : Dp X.K (upd H3 r2 (.lst (ys2.map V.str))) (.ref r2) (.list (ys2.map PyData.str)) := .lst (SqL.of upd_same) (Dw.str.dpAll (dp ys2))
  have lay : ∀ zs : List Str, (∀ z ∈ zs, PyData.strOk z = true) → SeqAt.shaped (.list (zs.map PyData.str)) = true := fun zs hz => (Dw.str.lst (K := X.K) Lis.pl).shaped (X := X) (by decide) (layAll _ _ hz)
  refine ⟨_, _, D1, D2, lay ys1 fun z hz => o1 z (hp1.subset hz), lay ys2 fun z hz => o2 z (hp2.subset hz), q _ F3 _ (w2.trans w4) ?_⟩
  show V.bl _ = V.bl _
  congr 1
  rw [Bool.eq_iff_iff, ((Dw.str.lst (K := X.K) Lis.pl).eqv ys1 ys2), decide_eq_true_eq]
  exact ⟨fun h => hp1.symm.trans (h ▸ hp2), fun h => sorted_uni ys1 ys2 hs1 hs2 (hp1.trans (h.trans hp2.symm))⟩
end
end Lg

namespace Lg
open PySem L2 Evl PyProof.Rows
theorem Le.setN {o : Option Sl} : ∀ (Γ : Ctx) (j : Nat), Le (Γ.set j o) (Γ.set j none)
  | [], _ => .nil
  | _ :: Γ, 0 => .drop (Le.refl Γ)
  | _ :: Γ, j + 1 => .keep (Le.setN Γ j)
section
variable {α β : Type} {R : Rl α} {S : Rl β} {cs : List (α × List β)}
/-- one list more is told as data -/
theorem ext_one {F H : Hp} {r : Addr} {o : HO} (fr : F r = none) (hr : H r = some o) (e : Ex F H) : Ex F (upd F r o) ∧ Ex (upd F r o) H := ⟨Ex.new fr, fun c u hc => by
  by_cases z : c = r
  · subst z; rw [upd_same] at hc; rw [hr]; exact hc
  · rw [upd_ne z] at hc; exact e c u hc⟩
theorem PL.frz {vs : List V} {qs : List Addr} : ∀ {F H : Hp}, PL R S F H vs cs qs → qs.Nodup → (∀ c ∈ qs, F c = none) → Ex F H → ∃ F1, Ex F F1 ∧ Ex F1 H ∧ (∀ c, c ∉ qs → F1 c = F c) ∧ (∀ c ∈ qs, ∃ o, F1 c = some o ∧ isM o) ∧ All2 ((rP R (rL S)).r F1) vs cs := by
  induction qs generalizing vs cs with
  | nil =>
    intro F H h _ _ e
    cases h
    exact ⟨F, Ex.refl F, e, fun _ _ => rfl, (fun _ z => nomatch z), .nil⟩
  | cons r qs ih =>
    intro F H h nq fl e
    cases h with
    | @cons t _ x ys c vs cs _ h1 h2 h3 h4 k =>
      obtain ⟨q1, q2⟩ := List.nodup_cons.mp nq
      obtain ⟨e1, e2⟩ := ext_one (fl r List.mem_cons_self) h3 e
      obtain ⟨F1, k1, k2, k3, k4, k5⟩ := ih (k.m e1 fun _ _ => rfl) q2 (fun c hc => by rw [upd_ne fun (z : c = r) => q1 (z ▸ hc)]; exact fl c (List.mem_cons_of_mem _ hc)) e2
      have er : F1 r = some (.lst ys) := by rw [k3 r q1, upd_same]
      refine ⟨F1, e1.trans k1, k2, fun c hc => ?_, fun c hc => ?_, .cons ⟨t, x, .ref r, rfl, (e1.trans k1) t _ h1, R.m (e1.trans k1) h2, r, ys, rfl, er, h4.imp fun _ _ => S.m (e1.trans k1)⟩ k5⟩
      · have c1 : c ≠ r := fun z => hc (z ▸ List.mem_cons_self)
        rw [k3 c fun z => hc (List.mem_cons_of_mem _ z), upd_ne c1]
      · rcases List.mem_cons.mp hc with z | z
        · exact ⟨_, z ▸ er, .inl ⟨ys, rfl⟩⟩
        · exact k4 c z
theorem Frz.owP : Frz isM (owP R S cs) (rL (rP R (rL S))) cs := fun {F H v l} ⟨q, xs, qs, h1, h2, h3, h4, h5⟩ fl e => by
  subst h2
  obtain ⟨n1, n2⟩ := List.nodup_cons.mp h3
  obtain ⟨F1, k1, k2, k3, k4, k5⟩ := h5.frz n2 (fun c hc => fl c (List.mem_cons_of_mem _ hc)) e
  have fq : F1 q = none := by rw [k3 q n1]; exact fl q List.mem_cons_self
  obtain ⟨e1, e2⟩ := ext_one fq h4 k2
  refine ⟨upd F1 q (.lst xs), k1.trans e1, e2, fun c hc => ?_, fun c hc => ?_, q, xs, h1, upd_same, k5.imp fun _ _ => Rl.m _ e1⟩
  · rw [upd_ne fun (z : c = q) => hc (z ▸ List.mem_cons_self), k3 c fun z => hc (List.mem_cons_of_mem _ z)]
  · by_cases z : c = q
    · exact ⟨.lst xs, by rw [z, upd_same], .inl ⟨xs, rfl⟩⟩
    · rw [upd_ne z]; exact k4 c ((List.mem_cons.mp hc).resolve_left z)
theorem Frz.ob {C a : Addr} {fs : α → List (Str × Im)} {x : α} : Frz isN (ob C a (fs x)) (rObj C fs) x := fun {F H v l} ⟨dx, ws, h1, h2, h3, h4⟩ fl e => by
  subst h2
  have fa := fl a (List.mem_singleton.mpr rfl)
  obtain ⟨e1, e2⟩ := ext_one fa h3 e
  exact ⟨upd F a (.ins C dx ws), e1, e2, fun c hc => upd_ne fun z => hc (List.mem_singleton.mpr z), fun c hc => ⟨.ins C dx ws, by rw [List.mem_singleton.mp hc, upd_same], C, dx, ws, rfl⟩, a, dx, ws, h1, upd_same, h4.m e1⟩
end
section
variable {X : Cx} {pins : List (Addr × Obj)} {σ : L2.St} {s : Shared} {α β : Type} {R : Rl α} {S : Rl β} {cs : List (α × List β)}
theorem lockP {vs : List V} {qs : List Addr} : ∀ {F H : Hp}, PL R S F H vs cs qs → qs.Nodup → (∀ r ∈ qs, F r = none) → Inv X pins σ H s →
    ∃ F' H', Inv X pins σ H' s ∧ Ex F F' ∧ (∀ c, c ∉ qs → F' c = F c ∧ H' c = H c) ∧ (∀ c ∈ qs, ∀ u, F' c = some u → H' c = some u) ∧ All2 ((rP R (rLK S)).r F') vs cs := by
  induction qs generalizing vs cs with
  | nil =>
    intro F H h _ _ I
    cases h
    exact ⟨F, H, I, Ex.refl F, fun c _ => ⟨rfl, rfl⟩, fun c hc => (nomatch hc), .nil⟩
  | cons r qs ih =>
    intro F H h nq hf I
    cases h with
    | @cons t _ x ys c vs cs _ h1 h2 h3 h4 k =>
      obtain ⟨q1, q2⟩ := List.nodup_cons.mp nq
      obtain ⟨od, I1⟩ := I.lock h3 trivial
      have fr := hf r List.mem_cons_self
      have e1 : Ex F (upd F r (.frz od (.lst ys))) := Ex.new fr
      obtain ⟨F', H', I2, e2, k1, k2, k3⟩ := ih (k.m e1 (H' := upd H r (.frz od (.lst ys))) fun c hc => upd_ne fun z => q1 (z ▸ hc)) q2 (fun c hc => by rw [upd_ne fun (z : c = r) => q1 (by rw [← z]; exact hc)]; exact hf c (List.mem_cons_of_mem _ hc)) I1
      have er : F' r = some (.frz od (.lst ys)) := by rw [(k1 r q1).1, upd_same]
      have e := e1.trans e2
      refine ⟨F', H', I2, e, fun c hc => ?_, fun c hc u hu => ?_, .cons ⟨t, x, .ref r, rfl, e t _ h1, R.m e h2, r, od, ys, rfl, er, h4.imp fun _ _ => S.m e⟩ k3⟩
      · have c1 : c ≠ r := fun z => hc (z ▸ List.mem_cons_self)
        have c2 := k1 c fun z => hc (List.mem_cons_of_mem _ z)
        rw [c2.1, c2.2, upd_ne c1, upd_ne c1]
        exact ⟨rfl, rfl⟩
      · rcases List.mem_cons.mp hc with z | z
        · rw [z, er] at hu
          rw [z, (k1 r q1).2, upd_same]; exact hu
        · exact k2 c z u hu
variable {b : Bs} {Γ : Ctx} {e : Expr}
/-- what comes new is locked -/
theorem EV.lkP (h : EV X b Γ e (owP R S cs)) : EV X b Γ e (im (rLK (rP R (rLK S))) cs) := fun σ F H l g d Q q =>
  wE.alter (Q0 := fun v H1 => ∃ p xs qs F1, v = .ref p ∧ (p :: qs).Nodup ∧ H1 p = some (.lst xs) ∧ PL R S F1 H1 xs cs qs ∧ (∀ c ∈ p :: qs, H c = none ∧ F1 c = none) ∧ Gw F H F1 H1) (h σ F H l g d _ fun v F' H' l' w ⟨p, xs, qs, h1, h2, h3, h4, h5⟩ f => by
    subst h2
    exact ⟨p, xs, qs, F', h1, h3, h4, h5, f, w⟩) fun pins s v H1 I ⟨p, xs, qs, F1, ev, nq, hp, hpl, hf, w⟩ => by
    obtain ⟨n1, n2⟩ := List.nodup_cons.mp nq
    obtain ⟨F2, H2, I2, e2, k1, k2, k3⟩ := lockP hpl n2 (fun r hr => (hf r (List.mem_cons_of_mem _ hr)).2) I
    have hp2 : H2 p = some (.lst xs) := by rw [(k1 p n1).2]; exact hp
    obtain ⟨od, I3⟩ := I2.lock hp2 trivial
    have fp : F2 p = none := by rw [(k1 p n1).1]; exact (hf p List.mem_cons_self).2
    have e3 : Ex F2 (upd F2 p (.frz od (.lst xs))) := Ex.new fp
    refine ⟨_, I3, q v (upd F2 p (.frz od (.lst xs))) _ [] ⟨(w.f.trans e2).trans e3, fun a u ha => ?_, fun a u ha => ?_, fun a h1 h2 => ?_⟩ ⟨rfl, p, od, xs, ev, upd_same, k3.imp fun _ _ => Rl.m _ e3⟩ fun _ z => nomatch z⟩
    · have a1 : a ≠ p := fun z => by rw [z, (hf p List.mem_cons_self).1] at ha; cases ha
      have a2 : a ∉ qs := fun z => by rw [(hf a (List.mem_cons_of_mem _ z)).1] at ha; cases ha
      rw [upd_ne a1, (k1 a a2).2]; exact w.h a u ha
    · by_cases z : a = p
      · subst z; rw [upd_same] at ha ⊢; exact ha
      · rw [upd_ne z] at ha ⊢
        by_cases z2 : a ∈ qs
        · exact k2 a z2 u ha
        · rw [(k1 a z2).1] at ha; rw [(k1 a z2).2]; exact w.e a u ha
    · have a1 : a ≠ p := fun z => h2 (by rw [z]; exact (hf p List.mem_cons_self).1)
      have a2 : a ∉ qs := fun z => h2 (hf a (List.mem_cons_of_mem _ z)).1
      rw [upd_ne a1, (k1 a a2).1]; exact w.k a h1 h2
end
section
variable {X : Cx} {b : Bs} {D : EndC} {Γ : Ctx} {α β γ : Type} {R : Rl α} {S : Rl β} {x : β} {c : α × List β} {cs : List (α × List β)} {e e1 : Expr} {pos np p1 p2 p3 apos cpos : Pos} {i k : Int} {n : Str} {rest : List Stmt}
/-- v[i][1].append(e), and v is told no more -/
theorem HT.appP (j : Nat) {kk : Nat} (hΓ : Γ[j]? = some (some (owP R S cs))) (hi : EV X b Γ e1 (im rI k)) (ha : atI cs k = some c) (he : EV X b Γ e (im S x)) (hz : c.2.length < 100000) (q : HT X b D (Γ.set j none) rest) (hN : X.N[j]? = some n := by rfl) (hv : Vis X.env.scope n := by first | exact Or.inl rfl | exact Or.inr (Or.inl rfl) | exact Or.inr (Or.inr rfl))
    (hd : (n == ("__debug__" : Str)) = false := by decide) (hcd : (n == ("__classdict__" : Str)) = false := by decide) (hse : starEach [e] X.env = (false, eval e X.env) :: starEach [] X.env := by rfl) (hpi : PlainIx e1 := by exact (fun _ _ => rfl))
    (hbm : ∀ {t : TE} {ta : TA}, PE X (.Subscript (.Subscript (.Name n np) e1 p1) (.Constant (.int 1) kk p2) p3) t → PA X [e] ta → PE X (.Call (.Attribute (.Subscript (.Subscript (.Name n np) e1 p1) (.Constant (.int 1) kk p2) p3) "append" apos) [e] [] cpos) (tBM X.K "list" rAppend t ta) := by exact fun h1 h2 => pe_bm PySem.F.plainAttrs_list PySem.F.slot_list_append PySem.F.type_list_append mt_append h1 h2)
    (hs : swapsWith (.Call (.Attribute (.Subscript (.Subscript (.Name n np) e1 p1) (.Constant (.int 1) kk p2) p3) "append" apos) [e] [] cpos) none pos.line X.env = pure false := by rfl) :
    HT X b D Γ (.Expr (.Call (.Attribute (.Subscript (.Subscript (.Name n np) e1 p1) (.Constant (.int 1) kk p2) p3) "append" apos) [e] [] cpos) pos :: rest) :=
  HT.step (ps_expr (hbm (pe_ix ix_tup (pe_ix ix_list (pe_var hN hv hd hcd) pe_w hpi) pe_w (fun _ _ => rfl)) (pa_cons pe_w pa_nil hse)) hs) fun σ F H ⟨l, g, d⟩ => by
    obtain ⟨v, l1, h1, hsl, hin⟩ := g.get hΓ
    obtain ⟨p, xs, qs, rfl, rfl, nq, hp, hpl⟩ := id hsl
    refine ⟨_, h1, hi σ F H l g d _ fun u F1 H1 l2 w1 pk _ => ?_⟩
    obtain ⟨t, r, z, ys, k1, k2, k3, k4, k5, k6⟩ := hpl.at_ ha
    refine ⟨p, xs, k, .ref t, rfl, pk.2, SqL.of (w1.h p _ hp), k1, (EV.int (i := 1)) σ F1 H1 l (g.grow w1) (d.grow g.t w1) _ fun u2 F2 H2 l3 w2 p2 _ => ?_⟩
    have w12 := w1.trans w2
    refine ⟨t, _, 1, .ref r, rfl, p2.2, SqT.of (w12.e t _ (w12.f t _ k3)), rfl, ?_⟩
    refine ⟨Or.inl ⟨rfl, ys, SqL.of (w12.h r _ k5)⟩, he σ F2 H2 l (g.grow w12) (d.grow g.t w12) _ fun u3 F3 H3 l4 w3 p3 _ => ?_⟩
    have w := w12.trans w3
    have g' := g.grow w
    have d' := d.grow g.t w
    refine ⟨r, ys, u3, rfl, rfl, w.h r _ k5, sz_lt (by rw [k6.len]; exact hz), ?_⟩
    obtain ⟨v', m1, m2, n1, n2, n3, n4, n5, n6⟩ := g'.out d'.nd hΓ
    rw [h1] at n1
    cases n1
    obtain ⟨p', xs', qs', e1', rfl, nq', hp', hpl'⟩ := n2
    cases e1'
    have hp3 := w.h p _ hp
    rw [hp3] at hp'
    cases hp'
    -- the same inner list
    obtain ⟨t', r', z', ys', c1, c2, c3, c4, c5, c6⟩ := hpl'.at_ ha
    rw [k1] at c1
    cases c1
    rw [w.f t _ k3] at c3
    cases c3
    have fr : F3 r = none := d'.of r (n3 r (List.mem_cons_of_mem _ c2))
    have br : b.B r = none := d'.ob r (n3 r (List.mem_cons_of_mem _ c2))
    have rl : r ∉ m2 := fun z => (n6 r z).2 (List.mem_cons_of_mem _ c2)
    have g2 : SgL F3 (upd H3 r (.lst (ys ++ [u3]))) (Γ.set j (some (vx (.ref p)))) σ m2 := n4.m (Ex.refl _) fun c hc => upd_ne fun z => rl (z ▸ hc)
    refine HT.weak (Le.setN (o := some (vx (.ref p))) Γ j) q σ F3 _ ⟨m2, g2, d'.ef, Ex.mut d'.eb br, Ex.mut d'.e fr, d'.k, n5, fun a ha => d'.of a (n6 a ha).1, fun a ha => d'.ob a (n6 a ha).1⟩
end
end Lg

/-! enumerate(d) and zip(t, d), d a dict: its keys' iterator as one of Draws -/
namespace Sx
open PySem PySem.Spec PyProof.Rows
section
variable {prog : Program} {w : World} {A : Around} {E : Value → Shared → Prop} {s : Shared} {it d : Addr} {i ep : Nat} {od : Obj} {es : Array DictEntry}
theorem key_next {en : DictEntry} {Q : Value → Shared → Prop} (hit : s.heap.IsKeyIter it d i es.size ep) (hod : s.heap.get? d = some od) (hdd : od.data = .dict es ep)
    (hx : es[i]? = some en) (hQ : ∀ h', h'.IsKeyIter it d (i + 1) es.size ep → Heap.SameBut it s.heap h' → Q en.key { s with heap := h' }) : wpAny (model prog w) A (Builtin.SmallTypes.nextOf (.ref it)) Q E s := by
  obtain ⟨o, ho, hc, hd⟩ := id hit
  unfold Builtin.SmallTypes.nextOf
  refine wpAny_bind (wpAny_callSpecial?_slot (name := Str.ofString "__next__") hit.typeIs F.slot_dict_keyiterator_next (wpAny_call_entry F.slot_dict_keyiterator_next hit.typeIs F.entry_dict_keyiterator_next ?_ (F.args_dict_keyiterator_next_1 _)))
  refine wpAny_bind (wpAny_pure (wpAny_bind (wpAny_bind ?_)))
  first | refine wpAny_bind (wpAny_typeNameOfWhole_keyiter hit.typeIs (wpAny_pure (wpAny_bind (wpAny_fieldsOf ho hd ?_)))) | refine wpAny_bind (wpAny_typeNameOf_keyiter hit.typeIs (wpAny_pure (wpAny_bind (wpAny_fieldsOf ho hd ?_))))
  simp only [show Builtin.Dict_items.ownsTuple "dict_keyiterator" = false from by decide, Bool.false_eq_true, if_false]
  show wpAny _ _ (if (Value.ref d == Value.none) = true then _ else _) _ _ s
  rw [if_neg (show ¬ ((Value.ref d == Value.none) = true) from Bool.false_ne_true)]
  refine wpAny_bind (wpAny_pure (wpAny_bind (wpAny_dictEntries hod hdd ?_)))
  rw [if_neg (by simp)]
  refine wpAny_bind (wpAny_pure (wpAny_bind (wpAny_dictEpoch hod hdd ?_)))
  rw [if_neg (by simp)]
  refine wpAny_pure ?_
  simp only [show ¬ ((i : Int) < 0) from by omega, if_false, Int.toNat_natCast, hx]
  refine wpAny_bind ?_
  first | refine wpAny_bind (wpAny_typeNameOfWhole_keyiter hit.typeIs (wpAny_pure (wpAny_bind (wpAny_isOneOf_keyiter hit.typeIs ?_)))) | refine wpAny_bind (wpAny_typeNameOf_keyiter hit.typeIs (wpAny_pure (wpAny_bind (wpAny_isOneOf_keyiter hit.typeIs ?_)))) | refine wpAny_bind (wpAny_typeNameOfWhole_keyiter hit.typeIs (wpAny_pure ?_))
  all_goals first | (show wpAny _ _ (setField (.ref it) 1 (rawInt ((i : Int) + 1)) >>= _) _ _ s; refine wpAny_bind (wpAny_setField ho hd (by simp) ?_)) | skip
  have hit' : (s.heap.update it (Obj.mapFields (·.setIfInBounds 1 (rawInt ((i : Int) + 1))))).IsKeyIter it d (i + 1) es.size ep :=
    ⟨_, Heap.get?_update_self _ ho (Obj.isFreed_of_fields (Obj.data_mapFields hd _)), (Obj.cls_mapFields ..).trans hc, by rw [Obj.data_mapFields hd]; simp [rawInt]⟩
  refine wpAny_bind (wpAny_holding (wpAny_bind (wpAny_isOneOf_keyiter (s := { s with heap := s.heap.update it (Obj.mapFields (·.setIfInBounds 1 (rawInt ((i : Int) + 1)))) }) hit'.typeIs ?_)))
  show wpAny _ _ (pure en.key) _ _ _
  exact wpAny_pure (wpAny_pure ⟨_, rfl, wpAny_pure (hQ _ hit' (Heap.SameBut.update ..))⟩)
theorem key_stop {Q : Value → Shared → Prop} (hh : A.handled = none) (hit : s.heap.IsKeyIter it d i es.size ep) (hod : s.heap.get? d = some od) (hdd : od.data = .dict es ep)
    (hge : es.size ≤ i) (hE : ∀ h' e, Heap.ExtBut it s.heap h' → (∃ o, h'.get? e = some o ∧ o.cls = .type "StopIteration") → E (.ref e) { s with heap := h' }) : wpAny (model prog w) A (Builtin.SmallTypes.nextOf (.ref it)) Q E s := by
  obtain ⟨o, ho, hc, hd⟩ := id hit
  unfold Builtin.SmallTypes.nextOf
  refine wpAny_bind (wpAny_callSpecial?_slot (name := Str.ofString "__next__") hit.typeIs F.slot_dict_keyiterator_next (wpAny_call_entry F.slot_dict_keyiterator_next hit.typeIs F.entry_dict_keyiterator_next ?_ (F.args_dict_keyiterator_next_1 _)))
  refine wpAny_bind (wpAny_pure (wpAny_bind (wpAny_bind ?_)))
  first | refine wpAny_bind (wpAny_typeNameOfWhole_keyiter hit.typeIs (wpAny_pure (wpAny_bind (wpAny_fieldsOf ho hd ?_)))) | refine wpAny_bind (wpAny_typeNameOf_keyiter hit.typeIs (wpAny_pure (wpAny_bind (wpAny_fieldsOf ho hd ?_))))
  simp only [show Builtin.Dict_items.ownsTuple "dict_keyiterator" = false from by decide, Bool.false_eq_true, if_false]
  show wpAny _ _ (if (Value.ref d == Value.none) = true then _ else _) _ _ s
  rw [if_neg (show ¬ ((Value.ref d == Value.none) = true) from Bool.false_ne_true)]
  refine wpAny_bind (wpAny_pure (wpAny_bind (wpAny_dictEntries hod hdd ?_)))
  rw [if_neg (by simp)]
  refine wpAny_bind (wpAny_pure (wpAny_bind (wpAny_dictEpoch hod hdd ?_)))
  rw [if_neg (by simp)]
  refine wpAny_pure ?_
  simp only [show ¬ ((i : Int) < 0) from by omega, if_false, Int.toNat_natCast, Array.getElem?_eq_none hge]
  refine wpAny_bind ?_
  first | refine wpAny_bind (wpAny_typeNameOfWhole_keyiter hit.typeIs (wpAny_pure ?_)) | refine wpAny_bind (wpAny_typeNameOf_keyiter hit.typeIs (wpAny_pure ?_))
  show wpAny _ _ (setField (.ref it) 0 .none >>= _) _ _ s
  refine wpAny_bind (wpAny_setField ho hd (by simp) ?_)
  show wpAny _ _ (newExc (.type "StopIteration") [] >>= _) _ _ _
  refine wpAny_bind ?_
  simp only [newExc, newTuple]
  refine wpAny_bind (wpAny_newObj_type (wpAny_bind (m := firstArgMember _ _) (wpAny_of_eq (a := Value.none) (by first | rfl | (simp only [firstArgMember]; rfl)) (wpAny_newObj_type ?_ (by size_fits)))) (by size_fits))
  simp only [raiseNew]
  refine wpAny_bind (wpAny_handled ?_)
  rw [show A.in1.handled = none from hh]
  refine wpAny_bind (wpAny_pure (wpAny_throw ?_))
  exact hE _ _ (((Heap.SameBut.update ..).extBut.push _).push _) ⟨_, Heap.get?_push_size _ rfl, rfl⟩
/-- d, as it is -/
def DictIs (d : Addr) (es : Array DictEntry) (ep : Nat) (h : Heap) : Prop := ∃ od, h.get? d = some od ∧ od.ExactDict ∧ od.data = .dict es ep
theorem draws_keys (hh : A.handled = none) (it d : Addr) (hne : d ≠ it) (es : Array DictEntry) (ep : Nat) : Draws prog w A it [it, d] es.size (fun i v => ∃ en, es[i]? = some en ∧ v = en.key) (fun i h => h.IsKeyIter it d i es.size ep ∧ DictIs d es ep h) where
  live := fun _ _ st => let ⟨o, ho, _⟩ := st.1; ⟨o, ho⟩
  frame := fun _ _ _ st hk => ⟨st.1.at fun o e => hk it (by simp) o e, let ⟨od, h1, h2⟩ := st.2; ⟨od, hk d (by simp) _ h1, h2⟩⟩
  item := fun i s Q E hi st hQ => by
    obtain ⟨st, od, h1, h2, h3⟩ := st
    exact key_next st h1 h3 (Array.getElem?_eq_getElem hi) fun h' st' hs => hQ _ h' s.toks ⟨_, Array.getElem?_eq_getElem hi, rfl⟩ ⟨st', od, hs.extBut d od hne h1, h2, h3⟩ hs
  done := fun s Q E st hE => by
    obtain ⟨st, od, h1, h2, h3⟩ := st
    exact key_stop hh st h1 h3 (Nat.le_refl _) hE
theorem begins_keys (d : Addr) (es : Array DictEntry) (ep : Nat) (hd : (d == sysModules) = false) : Begins (.ref d) { cls := .type "dict_keyiterator", data := .fields #[.ref d, .int 0 0, .int es.size 0, .int ep 0] } (DictIs d es ep) where
  iter := fun prog w A E s Q ⟨od, h1, h2, h3⟩ h => L2.iter_keys hd h1 h2 h3 h
  keeps := fun h h' ⟨od, h1, h2⟩ hk => ⟨od, hk d od h1, h2⟩
  free := rfl
end
set_option maxHeartbeats 1000000 in
theorem enum_new1 {v : Value} {o : Obj} {H : Heap → Prop} (B : Begins v o H) :
    Meets (Builtin.«enumerate.__new__» ⟨[.type "enumerate", v], []⟩) (fun _ R s => H s.heap ∧
      R (.ok (.ret (.ref (s.heap.push o).objs.size))) { s with heap := (s.heap.push o).push { cls := .type "enumerate", data := .fields #[.none, .bool false, .ref s.heap.objs.size, rawInt 0, .none, .none] } }) :=
  .of_wp fun prog w A R s h => by
    obtain ⟨hp, g, d, tk, os⟩ := s; obtain ⟨h1, h⟩ := h
    have hsub := sub_enumerate
    have q1 : ∀ {A' : Around} {E : Value → Shared → Prop} {Q : Value → Shared → Prop}, Q (.ref hp.objs.size) ⟨hp.push o, g, d, tk, os⟩ → wpAny (model prog w) A' (pyIter v) Q E ⟨hp, g, d, tk, os⟩ :=
      fun q => B.iter prog w _ _ ⟨hp, g, d, tk, os⟩ _ h1 q
    wp_walk using q1
    refine wpAny_stack_any fun st => wpAny_pure ?_
    split
    · rename_i c _ _ _ _ _
      cases (c == Value.type "enumerate") <;> (wp_walk using q1; exact ⟨_, rfl, h⟩)
    · wp_walk using q1
      exact ⟨_, rfl, h⟩
section
variable {prog : Program} {w : World} {A : Around} {E : Value → Shared → Prop} {s : Shared}
theorem enum_one {v : Value} {o : Obj} {H : Heap → Prop} {Q : Value → Shared → Prop} (B : Begins v o H) (h1 : H s.heap)
    (h : ∀ h', IsEnum h' (s.heap.objs.size + 1) s.heap.objs.size 0 .none → h'.get? s.heap.objs.size = some o → h'.objs.size = s.heap.objs.size + 2 →
      (∀ b o, s.heap.get? b = some o → h'.get? b = some o) → Q (.ref (s.heap.objs.size + 1)) { s with heap := h' }) :
    wpAny (model prog w) A (call (.type "enumerate") [v]) Q E s := by
  refine callType_new F.called_enumerate (by decide) (F.typeCall_enumerate_1 _) (F.newCall_enumerate_1 _) (fun obj => F.args_object_init_2 obj _) F.entry_enumerate_new (enum_new1 B) ⟨h1, ?_⟩
  have hz : (s.heap.push o).objs.size = s.heap.objs.size + 1 := Heap.size_push ..
  show _ ∧ _
  rw [hz]
  have he : IsEnum ((s.heap.push o).push { cls := .type "enumerate", data := .fields #[.none, .bool false, .ref s.heap.objs.size, rawInt 0, .none, .none] }) (s.heap.objs.size + 1) s.heap.objs.size 0 .none := by
    have q := Heap.get?_push_size (s.heap.push o) (o := { cls := .type "enumerate", data := .fields #[.none, .bool false, .ref s.heap.objs.size, rawInt 0, .none, .none] }) rfl
    rw [hz] at q; exact q
  exact ⟨⟨_, he, rfl⟩, h _ he (Heap.get?_push_of_some _ (Heap.get?_push_size _ B.free)) (by rw [Heap.size_push, hz]) fun b o x => Heap.get?_push_of_some _ (Heap.get?_push_of_some _ x)⟩
end
end Sx

namespace Sx
open PySem PySem.Spec PyProof.Rows L2
theorem key_rel {X : Cx} {pins : List (Addr × Obj)} {σ : L2.St} {H : Hp} {s : Shared} {d : Addr} {o : Obj} {kvs : List (Key × V)} {i : Nat} {es : Array DictEntry} {ep : Nat} (I : Inv X pins σ H s) (hd : H d = some (.frz o (.dK kvs))) (hod : o.data = .dict es ep) (hi : i < kvs.length) :
    s.heap.get? d = some o ∧ o.ExactDict ∧ es.size = kvs.length ∧ (d == sysModules) = false ∧ ∃ k v en, kvs[i]? = some (k, v) ∧ es[i]? = some en ∧ RelV (kV k) en.key := by
  obtain ⟨hs, hgd, hx, es', ep', vs, hdt, hsz, kv, hm⟩ := I.frzK hd
  obtain ⟨rfl, rfl⟩ := dict_ep hod hdt
  obtain ⟨⟨k, v⟩, hkv⟩ : ∃ p, kvs[i]? = some p := ⟨kvs[i], List.getElem?_eq_getElem hi⟩
  obtain ⟨u, hu, ru⟩ := kv_get kv hkv
  obtain ⟨od, es2, h1, _, h2, _, hp, _⟩ := hm
  rw [hgd] at h1
  cases h1
  obtain ⟨rfl, _⟩ := dict_ep hdt h2
  have hlt : i < es2.size := by omega
  refine ⟨hgd, hx, hsz, hs, k, v, es2[i], hkv, Array.getElem?_eq_getElem hlt, relV_key ?_⟩
  exact (hp.get? (e := es2[i]) (by simp [hlt]) hu).1
section
variable {P : Program} {w : World} {K : PySem.W.Frag} {elts : List Expr} {kk : Nat} {tpos : Pos} {a d e it z TI TO i1 i2 : Addr} {o : Obj} {kvs : List (Key × V)} {es : Array DictEntry} {ep : Nat}
/-- enumerate(d) -/
def Itek (d : Addr) (o : Obj) (kvs : List (Key × V)) : It :=
  ⟨fun i H => H d = some (.frz o (.dK kvs)) ∧ i < kvs.length, fun i H v H' => ∃ T k x, kvs[i]? = some (k, x) ∧ v = .ref T ∧ H T = none ∧ H' = upd H T (.tup [.int (i : Nat), kV k]), fun i H => H d = some (.frz o (.dK kvs)) ∧ kvs.length = i⟩
theorem turn_enumK (hod : o.data = .dict es ep) : Turn P w K (.Tuple elts kk tpos) (Itek d o kvs) [e, it] e (fun i h => (∃ old, IsEnum h e it ((i : Nat) : Int) old) ∧ h.IsKeyIter it d i es.size ep ∧ e ≠ it) where
  mem := by simp
  obj := fun i h st b hb => by
    obtain ⟨⟨old, he⟩, ⟨oi, ho, hc, hdd⟩, _⟩ := st
    have e' : b = e ∨ b = it := by simpa using hb
    rcases e' with q | q
    · rw [q]; exact ⟨_, he, fun v q => nomatch q⟩
    · rw [q]; exact ⟨oi, ho, fun v q => by rw [hdd] at q; cases q⟩
  keep := fun i h h' st k => let ⟨⟨old, he⟩, hi, hne⟩ := st; ⟨⟨old, k e (by simp) _ he⟩, hi.at fun o q => k it (by simp) o q, hne⟩
  item := by
    intro X hP hw hK hc i pins s σ H E I hf st hg
    subst hP hw hK
    have hq1 : X.A.in1.handled = none := by simp [I.ok.hd hc]
    obtain ⟨⟨old, he⟩, hit, hne⟩ := st
    obtain ⟨hd, hi⟩ := hg
    obtain ⟨gd, hx, hsz, _, k, v, en, hkv, hen, rk⟩ := key_rel I hd hod hi
    have fit : H it = none := (hf it (by simp)).1
    have fe : H e = none := (hf e (by simp)).1
    have hdi : d ≠ it := fun z => by rw [z, fit] at hd; cases hd
    have hed : e ≠ d := fun z => by rw [← z, fe] at hd; cases hd
    have hel : e < s.heap.objs.size := Heap.lt_size he
    have hil : it < s.heap.objs.size := by obtain ⟨_, q, _⟩ := hit; exact Heap.lt_size q
    refine wpAny_pyNext_enum_itemD (draws_keys hq1 it d hdi es ep) he ⟨hit, o, gd, hx, hod⟩ (by omega) hne (by simp [hne, hed]) fun x h' tk ⟨en', hen', hx'⟩ ho st' hT hz hk => ?_
    rw [hen] at hen'
    cases hen'
    subst hx'
    refine ⟨_, rfl, wpAny_letOwnedTupleGo_enum (s := { s with heap := h', toks := tk + 1 }) ho fun h'' he' sb => ?_⟩
    have hT2 : h''.get? s.heap.objs.size = some { cls := .type "tuple", data := .seq #[.int i tk, en.key] } := (sb.2 _ (Nat.ne_of_gt hel)).trans hT
    have new : ObjOk X.prog X.w (upd H s.heap.objs.size (.tup [.int (i : Nat), kV k])) h'' s.heap.objs.size (.tup [.int (i : Nat), kV k]) :=
      ⟨by show 2 ≤ sizeLine; decide, [.int i tk, en.key], .cons ⟨_, rfl⟩ (.cons rk .nil), ⟨_, hT2, rfl, _, rfl⟩⟩
    have J : Inv X pins σ (upd H s.heap.objs.size (.tup [.int (i : Nat), kV k])) { s with heap := h'', toks := tk + 1 } :=
      I.turnedNew (ch := [e, it]) (fun b ob hb q => (sb.2 b (fun z => hb (by simp [z]))).trans (hk b ob (fun z => hb (by simp [z])) (fun z => hb (by simp [z])) q)) hf (Nat.le_refl _) new
    refine ⟨.ref s.heap.objs.size, _, J, rfl, ⟨_, k, v, hkv, rfl, I.hok.fresh (Nat.le_refl _), rfl⟩, ⟨⟨en.key, ?_⟩, st'.1.at fun o q => (sb.2 it (Ne.symm hne)).trans q, hne⟩, fun b hb => ?_⟩
    · rw [show ((i + 1 : Nat) : Int) = (i : Int) + 1 by omega]; exact he'
    · have hb' : b < s.heap.objs.size := by
        have e' : b = e ∨ b = it := by simpa using hb
        rcases e' with z | z
        · rw [z]; exact hel
        · rw [z]; exact hil
      rw [upd_ne (Nat.ne_of_lt hb')]
      exact (hf b hb).1
  done := by
    intro X hP hw hK hc i pins s σ H E I hf st hg
    subst hP hw hK
    have hq1 : X.A.in1.handled = none := by simp [I.ok.hd hc]
    obtain ⟨⟨old, he⟩, hit, hne⟩ := st
    obtain ⟨hd, hi⟩ := hg
    obtain ⟨hs, hgd, hx, es', ep', vs, hdt, hsz, kv, hm⟩ := I.frzK hd
    obtain ⟨rfl, rfl⟩ := dict_ep hod hdt
    obtain ⟨f0, f1, f2, f3, f4, f5⟩ := hf it (by simp)
    have hdi : d ≠ it := fun z => by rw [z, f0] at hd; cases hd
    rw [show i = es'.size by omega] at hit
    exact wpAny_pyNext_enum_endD (draws_keys hq1 it d hdi es' ep') he ⟨hit, o, hgd, hx, hod⟩ fun h' eb => ⟨rfl, I.turned (t' := s.toks) (fun b o hb q => eb b o hb q) f0 f1 f3 f4 f5⟩
  self := fun A i s Q E st h => let ⟨⟨_, he⟩, _⟩ := st; wpAny_pyIter_enum he h
def iEnumK (ta : TA) : L2.TI := fun σ H R => ta σ H fun vs H1 => ∃ d o kvs, vs = [.ref d] ∧ H1 d = some (.frz o (.dK kvs)) ∧ R (Itek d o kvs) H1
theorem pi_enumK {X : Cx} {e : Expr} {ta : TA} {p pos tpos : Pos} {elts : List Expr} {kk : Nat} (hg : Gl X "enumerate") (hm : X.mg "enumerate" = none) (ha : PA X [e] ta) (hs : starEach [e] X.env = [(false, eval e X.env)] := by rfl) :
    PI X (.Tuple elts kk tpos) (.Call (.Name "enumerate" p) [e] [] pos) (iEnumK ta) := by
  refine ⟨fun pins s σ H R I h => ?_⟩
  refine Call_ (ld_blt I hg hm boot_enumerate (PyProof.Rows.callWith_type1 (thn (ha.run pos pins s σ H _ I h) fun us s1 ⟨vs, H1, I1, r1, q1⟩ => ?_) hs rfl))
  obtain ⟨d, o, kvs, ex, hd, q⟩ := q1
  subst ex
  cases r1 with
  | cons r rr =>
    cases rr
    cases r
    obtain ⟨hsm, hgd, hx, es, ep, vs, hdt, hsz, kv, hmm⟩ := I1.frzK hd
    refine enum_one (begins_keys d es ep hsm) ⟨o, hgd, hx, hdt⟩ fun h' he hit hz hk => wpAny_pyIter_enum he ?_
    have I2 : Inv X pins σ H1 { s1 with heap := h' } := I1.kept (t' := s1.toks) hk
    refine ⟨s1.heap.objs.size + 1, [s1.heap.objs.size + 1, s1.heap.objs.size], _, _, H1, rfl, I2, turn_enumK (e := s1.heap.objs.size + 1) (it := s1.heap.objs.size) hdt, ⟨⟨.none, he⟩, ⟨_, hit, rfl, rfl⟩, Nat.succ_ne_self _⟩, fun b hb => ?_, q⟩
    have e' : b = s1.heap.objs.size + 1 ∨ b = s1.heap.objs.size := by simpa using hb
    have hle : s1.heap.objs.size ≤ b := by rcases e' with z | z <;> rw [z] <;> first | exact Nat.le_refl _ | exact Nat.le_succ _
    exact I1.fpOk hle (I1.hok.fresh hle)
theorem ne_ad {x y : Nat} (h : x < y ∨ y < x) : (x : Addr) ≠ (y : Addr) := fun z => by
  have z : (x : Nat) = y := z
  omega
theorem nin_ad {x y z : Nat} (h1 : x < y ∨ y < x) (h2 : x < z ∨ z < x) : (x : Addr) ∉ ([y, z] : List Addr) := fun q => by
  rcases List.mem_cons.mp q with q | q
  · exact ne_ad h1 q
  · exact ne_ad h2 (List.mem_singleton.mp q)
theorem sepN (n a d : Nat) (ha : a < n) (hd : d < n) : ZipSep2 (n + 4 : Nat) (n + 2 : Nat) (n + 3 : Nat) (n : Nat) (n + 1 : Nat) [(n : Nat), a] [(n + 1 : Nat), d] where
  TIz := ne_ad (by omega)
  TOz := ne_ad (by omega)
  TITO := ne_ad (by omega)
  TIi1 := ne_ad (by omega)
  mem1 := List.mem_cons_self
  zf1 := nin_ad (by omega) (by omega)
  Tf1 := nin_ad (by omega) (by omega)
  TIi2 := ne_ad (by omega)
  mem2 := List.mem_cons_self
  zf2 := nin_ad (by omega) (by omega)
  Tf2 := nin_ad (by omega) (by omega)
  sep1_2 := nin_ad (by omega) (by omega)
  sep2_1 := nin_ad (by omega) (by omega)
/-- zip(t, d) -/
def Itzk (K : PySem.W.Frag) (a d : Addr) (o : Obj) (kvs : List (Key × V)) : It :=
  ⟨fun i H => ∃ (xs : List V) (x : V), SqT K H a xs ∧ xs[i]? = some x ∧ H d = some (.frz o (.dK kvs)) ∧ i < kvs.length,
    fun i H v H' => ∃ T x k y, v = .ref T ∧ H T = none ∧ H' = upd H T (.tup [x, kV k]) ∧ (∀ xs, SqT K H a xs → xs[i]? = some x) ∧ kvs[i]? = some (k, y),
    fun i H => ∃ xs : List V, SqT K H a xs ∧ H d = some (.frz o (.dK kvs)) ∧ i ≤ xs.length ∧ i ≤ kvs.length ∧ (i = xs.length ∨ i = kvs.length)⟩
theorem turn_zipK (hod : o.data = .dict es ep) (D : ZipSep2 z TI TO i1 i2 [i1, a] [i2, d]) (hai : a ≠ i1) (hdi : d ≠ i2) : Turn P w K (.Tuple elts kk tpos) (Itzk K a d o kvs) [z, TI, TO, i1, i2] z (fun i h => IsZip h z TI TO .none ∧ IsTupOf2 h TI (.ref i1) (.ref i2) ∧ (∃ x y, IsTupOf2 h TO x y) ∧ h.IsTupleIter i1 a i ∧ h.IsKeyIter i2 d i es.size ep) where
  mem := by simp
  obj := fun i h st c hc => by
    obtain ⟨hz, hTI, ⟨x, y, hTO⟩, ⟨o1, e1, _, d1⟩, ⟨o2, e2, _, d2⟩⟩ := st
    have e' : c = z ∨ c = TI ∨ c = TO ∨ c = i1 ∨ c = i2 := by simpa using hc
    rcases e' with q | q | q | q | q
    · rw [q]; exact ⟨_, hz, fun v q => nomatch q⟩
    · rw [q]; exact ⟨_, hTI, fun v q => nomatch q⟩
    · rw [q]; exact ⟨_, hTO, fun v q => nomatch q⟩
    · rw [q]; exact ⟨o1, e1, fun v q => by rw [d1] at q; cases q⟩
    · rw [q]; exact ⟨o2, e2, fun v q => by rw [d2] at q; cases q⟩
  keep := fun i h h' st k => by
    obtain ⟨hz, hTI, ⟨x, y, hTO⟩, h1, h2⟩ := st
    exact ⟨k z (by simp) _ hz, k TI (by simp) _ hTI, ⟨x, y, k TO (by simp) _ hTO⟩, h1.at fun o q => k i1 (by simp) o q, h2.at fun o q => k i2 (by simp) o q⟩
  item := by
    intro X hP hw hK hc i pins s σ H E I hf st hg
    subst hP hw hK
    have hq1 : X.A.in1.handled = none := by simp [I.ok.hd hc]
    obtain ⟨hz, hTI, ⟨x0, y0, hTO⟩, h1, h2⟩ := st
    obtain ⟨xs, x, hqx, hx, hd, hi⟩ := hg
    obtain ⟨its, rv, p, _⟩ := I.tuple hqx
    obtain ⟨u, hu, ru⟩ := rv.get hx
    obtain ⟨gd, hxd, hsz, _, k, y, en, hkv, hen, rk⟩ := key_rel I hd hod hi
    have hzl : z < s.heap.objs.size := Heap.lt_size hz
    have hxl := (List.getElem?_eq_some_iff.mp hu).1
    refine wpAny_pyNext_zipD2_item D (Draws.tuple hq1 i1 a hai its.toArray) (draws_keys hq1 i2 d hdi es ep) hz hTI hTO ⟨h1, p⟩ ⟨h2, o, gd, hxd, hod⟩ (by simpa using hxl) (by omega) fun v1 v2 h' tk q1 ⟨en', hen', q2⟩ z' TO' h1' h2' hT hs hk => ?_
    have q1 : v1 = u := by
      have : its.toArray[i]? = some v1 := q1
      rw [List.getElem?_toArray, hu] at this
      exact (Option.some.inj this).symm
    rw [hen] at hen'
    cases hen'
    subst q2
    subst q1
    refine ⟨_, rfl, wpAny_letOwnedTupleGo_zip (s := { s with heap := h', toks := tk }) z' fun h'' z'' sb => ?_⟩
    have hT2 : h''.get? s.heap.objs.size = some { cls := .type "tuple", data := .seq #[v1, en.key] } := (sb.2 _ (Nat.ne_of_gt hzl)).trans hT
    have new : ObjOk X.prog X.w (upd H s.heap.objs.size (.tup [x, kV k])) h'' s.heap.objs.size (.tup [x, kV k]) :=
      ⟨by show 2 ≤ sizeLine; decide, [v1, en.key], .cons ru (.cons rk .nil), ⟨_, hT2, rfl, _, rfl⟩⟩
    have J : Inv X pins σ (upd H s.heap.objs.size (.tup [x, kV k])) { s with heap := h'', toks := tk } :=
      I.turnedNew (t' := tk) (ch := [z, TI, TO, i1, i2]) (fun c o hb q => (sb.2 c (fun q' => hb (by simp [q']))).trans (hk c o (fun q' => hb (by simp [q'])) (fun q' => hb (by simp [q'])) (fun q' => hb (by simp [q'])) (fun q' => hb (by simp [q'])) q)) hf (Nat.le_refl _) new
    refine ⟨.ref s.heap.objs.size, _, J, rfl, ⟨_, x, k, y, rfl, I.hok.fresh (Nat.le_refl _), rfl, fun l hl => by rw [I.tuple_inj hl hqx]; exact hx, hkv⟩, ⟨z'', ?_, ⟨v1, en.key, ?_⟩, ?_, ?_⟩, fun c hcm => ?_⟩
    · exact (sb.2 _ D.TIz).trans (hk _ _ D.TIz D.TITO D.TIi1 D.TIi2 hTI)
    · exact (sb.2 _ D.TOz).trans TO'
    · exact h1'.1.at fun o q => (sb.2 _ (Ne.symm D.zi1)).trans q
    · exact h2'.1.at fun o q => (sb.2 _ (Ne.symm D.zi2)).trans q
    · have hlt : c < s.heap.objs.size := by
        have e' : c = z ∨ c = TI ∨ c = TO ∨ c = i1 ∨ c = i2 := by simpa using hcm
        rcases e' with q | q | q | q | q
        · rw [q]; exact hzl
        · rw [q]; exact Heap.lt_size hTI
        · rw [q]; exact Heap.lt_size hTO
        · rw [q]; obtain ⟨_, e1, _⟩ := h1; exact Heap.lt_size e1
        · rw [q]; obtain ⟨_, e2, _⟩ := h2; exact Heap.lt_size e2
      rw [upd_ne (Nat.ne_of_lt hlt)]
      exact (hf c hcm).1
  done := by
    intro X hP hw hK hc i pins s σ H E I hf st hg
    subst hP hw hK
    have hq1 : X.A.in1.handled = none := by simp [I.ok.hd hc]
    obtain ⟨hz, hTI, ⟨x0, y0, hTO⟩, h1, h2⟩ := st
    obtain ⟨xs, hqx, hd, l1, l2, hend⟩ := hg
    obtain ⟨its, rv, p, _⟩ := I.tuple hqx
    obtain ⟨hs, hgd, hx, es', ep', vs, hdt, hsz, kv, hm⟩ := I.frzK hd
    obtain ⟨rfl, rfl⟩ := dict_ep hod hdt
    have hl := rv.length
    have sz : its.toArray.size = xs.length := by simp; omega
    exact wpAny_pyNext_zipD2_end D (Draws.tuple hq1 i1 a hai its.toArray) (draws_keys hq1 i2 d hdi es' ep') hz hTI hTO ⟨h1, p⟩ ⟨h2, o, hgd, hx, hod⟩ (by omega) (by omega) (by omega) fun h' tk hk => ⟨rfl, I.turnedL (t' := tk) (ch := [z, TI, TO, i1, i2]) (fun c o hb q =>
      hk c o (fun q' => hb (by simp [q'])) (fun q' => hb (by simp [q'])) (fun q' => hb (by simp [q'])) (fun q' => hb (by simp [q'])) q) hf⟩
  self := fun A i s Q E st h => wpAny_pyIter_zip st.1 h
def iZipK (K : PySem.W.Frag) (ta : TA) : L2.TI := fun σ H R => ta σ H fun vs H1 => ∃ a d o xs kvs, vs = [.ref a, .ref d] ∧ SqT K H1 a xs ∧ H1 d = some (.frz o (.dK kvs)) ∧ R (Itzk K a d o kvs) H1
theorem pi_zipK {X : Cx} {e e2 : Expr} {ta : TA} {p pos tpos : Pos} {elts : List Expr} {kk : Nat} (hg : Gl X "zip") (hm : X.mg "zip" = none) (ha : PA X [e, e2] ta)
    (hs : starEach [e, e2] X.env = (false, eval e X.env) :: starEach [e2] X.env := by rfl) (hpl : (backTo pos (starEach [e2] X.env)).any (·.1) = false := by rfl) :
    PI X (.Tuple elts kk tpos) (.Call (.Name "zip" p) [e, e2] [] pos) (iZipK X.K ta) := by
  refine ⟨fun pins s σ H R I h => ?_⟩
  refine Call_ (ld_blt I hg hm PyProof.Rows.boot_zip (PyProof.Rows.callWith_type1 (thn (ha.run pos pins s σ H _ I h) fun us s1 ⟨vs, H1, I1, r1, q1⟩ => ?_) hs hpl))
  obtain ⟨a, d, o, xs, kvs, ex, hqx, hd, q⟩ := q1
  subst ex
  cases r1 with
  | cons r rr =>
    cases rr with
    | cons r' rr =>
      cases rr
      cases r
      cases r'
      obtain ⟨its, rv, p1, _⟩ := I1.tuple hqx
      obtain ⟨hsm, hgd, hx, es, ep, vs, hdt, hsz, kv, hmm⟩ := I1.frzK hd
      have al : a < s1.heap.objs.size := by obtain ⟨oa, ha, _⟩ := id p1; exact Heap.lt_size ha
      have dl : d < s1.heap.objs.size := Heap.lt_size hgd
      refine zip_begins2 (begins_tuple a its.toArray) (begins_keys d es ep hsm) p1 ⟨o, hgd, hx, hdt⟩ fun h' hz hTI hTO h1 h2 hsz hk => wpAny_pyIter_zip hz ?_
      have I2 : Inv X pins σ H1 { s1 with heap := h' } := I1.kept (t' := s1.toks) hk
      refine ⟨s1.heap.objs.size + 4, [s1.heap.objs.size + 4, s1.heap.objs.size + 2, s1.heap.objs.size + 3, s1.heap.objs.size, s1.heap.objs.size + 1], _, _, H1, rfl, I2, turn_zipK (z := s1.heap.objs.size + 4) (TI := s1.heap.objs.size + 2) (TO := s1.heap.objs.size + 3) (i1 := s1.heap.objs.size) (i2 := s1.heap.objs.size + 1) hdt (sepN _ a d al dl) (Nat.ne_of_lt al) (Nat.ne_of_lt (Nat.lt_succ_of_lt dl)), ⟨hz, hTI, ⟨_, _, hTO⟩, ⟨_, h1, rfl, rfl⟩, ⟨_, h2, rfl, rfl⟩⟩, fun c hcm => ?_, q⟩
      have e' : c = s1.heap.objs.size + 4 ∨ c = s1.heap.objs.size + 2 ∨ c = s1.heap.objs.size + 3 ∨ c = s1.heap.objs.size ∨ c = s1.heap.objs.size + 1 := by simpa using hcm
      have hle : s1.heap.objs.size ≤ c := by rcases e' with z | z | z | z | z <;> rw [z] <;> first | exact Nat.le_refl _ | exact Nat.le_add_right _ _
      exact I1.fpOk hle (I1.hok.fresh hle)
end
end Sx

namespace Lg
open PySem L2 Evl PyProof.Rows
def enL {α : Type} (as : List α) : List (Int × α) := as.zipIdx.map fun p => ((p.2 : Int), p.1)
theorem enL_len {α : Type} (as : List α) : (enL as).length = as.length := by unfold enL; rw [List.length_map, List.length_zipIdx]
theorem enL_get {α : Type} {as : List α} {i : Nat} {a : α} (h : as[i]? = some a) : (enL as)[i]? = some ((i : Int), a) := by
  unfold enL
  rw [List.getElem?_map, List.getElem?_zipIdx, h]
  simp
theorem enL_inv {α : Type} {as : List α} {i : Nat} {p : Int × α} (h : (enL as)[i]? = some p) : p.1 = (i : Int) ∧ as[i]? = some p.2 := by
  unfold enL at h
  rw [List.getElem?_map, List.getElem?_zipIdx] at h
  cases q : as[i]? with
  | none => rw [q] at h; cases h
  | some a =>
    rw [q] at h
    simp at h
    rw [← h]
    exact ⟨rfl, rfl⟩
section
variable {X : Cx} {b : Bs} {Γ : Ctx} {α β γ : Type} {R : Rl α} {S : Rl β} {as : List α} {bs : List β} {kvs : List (Key × β)} {ns : List Str} {e e1 e2 tg : Expr} {elts : List Expr} {kk n : Nat} {p pos tpos : Pos} {IR IR' : Nat → Im → Prop}
theorem IV.to (h : IV X b Γ tg e n IR) (k : ∀ i y, i < n → IR i y → IR' i y) : IV X b Γ tg e n IR' := by
  obtain ⟨wi, h1, h2⟩ := h
  refine ⟨wi, h1, fun σ F H l g d R q => h2 σ F H l g d R fun J F1 H1 w ⟨G, Y, W, hG, hY⟩ => q J F1 H1 w ⟨G, Y, W, hG, fun i F' H' v H'' hi e1 e2 y => ?_⟩⟩
  obtain ⟨F'', y0, q1, q2, q3⟩ := hY i F' H' v H'' hi e1 e2 y
  exact ⟨F'', y0, q1, k i y0 hi q2, q3⟩
theorem IV.enumE (h : IV X b Γ tg e as.length (IEn R as)) : IV X b Γ tg e (enL as).length (IL (rP rI R) (enL as)) := by
  rw [enL_len]
  exact h.to fun i y hi ⟨a, h1, h2⟩ => ⟨_, enL_get h1, h2⟩
theorem IV.zipE (hl : as.length = bs.length) (h : IV X b Γ tg e as.length (IZp R S as bs)) : IV X b Γ tg e (as.zip bs).length (IL (rP R S) (as.zip bs)) := by
  rw [List.length_zip, hl, Nat.min_self, ← hl]
  exact h.to fun i y hi ⟨a, c, h1, h2, h3⟩ => ⟨(a, c), by rw [List.getElem?_zip_eq_some]; exact ⟨h1, h2⟩, h3⟩
/-- for i, k in enumerate(d) -/
theorem IV.enumK (h : AV X b Γ [e] [mk (rDK S) kvs]) (hk : ks kvs ns) (hm : X.mg "enumerate" = none) (hg : Gl X "enumerate" := by rfl) (hs : starEach [e] X.env = [(false, eval e X.env)] := by rfl) :
    IV X b Γ (.Tuple elts kk tpos) (.Call (.Name "enumerate" p) [e] [] pos) (enL ns).length (IL (rP rI rS) (enL ns)) := by
  obtain ⟨ta, h1, h2⟩ := h
  refine ⟨_, Sx.pi_enumK hg hm h1 hs, fun σ F H l g d R q => h2 σ F H l g d _ fun vs F1 H1 w k => ?_⟩
  obtain ⟨v, rfl, a, o, ws, rfl, hp, hx⟩ := ims1 k
  have hx : KvR (S.r F1) ws kvs := hx
  have hn : ws.length = ns.length := by
    have := congrArg List.length (KvR.keys hx)
    rwa [List.length_map, hk, List.length_map] at this
  refine ⟨a, o, ws, rfl, w.e a _ hp, q _ F1 H1 w ?_⟩
  rw [enL_len]
  refine ⟨fun H' => H' a = some (.frz o (.dK ws)), fun i H v H' => ∃ T k x, ws[i]? = some (k, x) ∧ v = .ref T ∧ H T = none ∧ H' = upd H T (.tup [.int (i : Nat), kV k]), ⟨fun i H hi h => ⟨h, by omega⟩, fun H h => ⟨h, hn⟩, fun i H x H' hi h y => y⟩, fun F' H' e1 e2 => e2 a _ (e1 a _ hp), fun i F' H' v H'' hi e1 e2 ⟨T, kq, x, y1, y2, y3, y4⟩ => ?_⟩
  subst y2 y4
  obtain ⟨n0, z1, z2⟩ := ks_at (show ks ws ns from by unfold ks; rw [KvR.keys hx, hk]) y1
  exact ⟨_, mk (rP rI rS) ((i : Int), n0), Gw.new e2 y3, ⟨_, enL_get z1, rfl⟩, T, _, _, rfl, upd_same, rfl, by rw [z2]; rfl⟩
/-- for x, k in zip(t, d) -/
theorem IV.zipK (h : AV X b Γ [e1, e2] [mk (rT R) as, mk (rDK S) kvs]) (hk : ks kvs ns) (hl : as.length = ns.length) (hm : X.mg "zip" = none) (hg : Gl X "zip" := by rfl) (hs : starEach [e1, e2] X.env = (false, eval e1 X.env) :: starEach [e2] X.env := by rfl)
    (hpl : (backTo pos (starEach [e2] X.env)).any (·.1) = false := by rfl) : IV X b Γ (.Tuple elts kk tpos) (.Call (.Name "zip" p) [e1, e2] [] pos) (as.zip ns).length (IL (rP R rS) (as.zip ns)) := by
  obtain ⟨ta, h1, h2⟩ := h
  refine ⟨_, Sx.pi_zipK hg hm h1 hs hpl, fun σ F H l g d Q q => h2 σ F H l g d _ fun vs F1 H1 w k => ?_⟩
  obtain ⟨v, u, rfl, ⟨a, xs, rfl, hp, hx⟩, ⟨c, o, ws, rfl, hp', hx'⟩⟩ := ims2 k
  have hx' : KvR (S.r F1) ws kvs := hx'
  have hx : All2 (R.r F1) xs as := hx
  have hn : ws.length = ns.length := by
    have := congrArg List.length (KvR.keys hx')
    rwa [List.length_map, hk, List.length_map] at this
  have hxl : xs.length = as.length := hx.len
  refine ⟨a, c, o, xs, ws, rfl, SqT.of (w.e a _ hp), w.e c _ hp', q _ F1 H1 w ?_⟩
  rw [List.length_zip, hl, Nat.min_self, ← hl]
  refine ⟨fun H' => SqT X.K H' a xs ∧ H' c = some (.frz o (.dK ws)), fun i H v H' => ∃ T x k y, v = .ref T ∧ H T = none ∧ H' = upd H T (.tup [x, kV k]) ∧ xs[i]? = some x ∧ ws[i]? = some (k, y),
    ⟨fun i H hi h => ⟨xs, xs[i]'(by omega), h.1, List.getElem?_eq_getElem (by omega), h.2, by omega⟩, fun H h => ⟨xs, h.1, h.2, by omega, by omega, .inl (by omega)⟩, fun i H x H' hi h ⟨T, x0, kq, y, y1, y2, y3, y4, y5⟩ => ⟨T, x0, kq, y, y1, y2, y3, y4 xs h.1, y5⟩⟩,
    fun F' H' e1 e2 => ⟨SqT.of (e2 a _ (e1 a _ hp)), e2 c _ (e1 c _ hp')⟩, fun i F' H' v H'' hi e1 e2 ⟨T, x0, kq, y, y1, y2, y3, y4, y5⟩ => ?_⟩
  subst y1 y3
  obtain ⟨n0, z1, z2⟩ := ks_at (show ks ws ns from by unfold ks; rw [KvR.keys hx', hk]) y5
  obtain ⟨a0, z3, z4⟩ := All2.getV hx y4
  have ee := e1.trans (Ex.new (o := HO.tup [x0, kV kq]) (ex_none e2 y2))
  exact ⟨_, mk (rP R rS) (a0, n0), Gw.new e2 y2, ⟨(a0, n0), by rw [List.getElem?_zip_eq_some]; exact ⟨z3, z1⟩, rfl⟩, T, _, _, rfl, upd_same, R.m ee z4, by rw [z2]; rfl⟩
/-- len(d) -/
theorem call_lenK {X : Cx} : CallR X (.builtin "len") (fun xs H Q => ∃ a kvs, xs = [V.ref a] ∧ Rd H a (.dK kvs) ∧ Q (.int kvs.length) H) := by
  intro pins s σ H xs us Q I r h
  obtain ⟨a, kvs, rfl, ha, q⟩ := h
  obtain ⟨u, rfl, ru⟩ := vals1 r
  cases ru
  exact d_len I ha fun t s' I' => ⟨.int kvs.length, H, I', ⟨t, rfl⟩, q⟩
theorem EV.lenK {L : Rl (List (Key × β))} (hD : Dic L S) (ha : AV X b Γ [e] [mk L kvs]) (hm : X.mg "len" = none) (hg : Gl X "len" := by rfl) (he : starEach [e] X.env = (false, eval e X.env) :: starEach [] X.env := by rfl) : EV X b Γ (.Call (.Name "len" p) [e] [] pos) (im rI (kvs.length : Int)) :=
  EV.c1 ha (fun h => pe_callB call_lenK hg hm (by decide +kernel) h (he := he) (hpl := rfl)) fun F H v ef hv Q q => by
    obtain ⟨a, ws, rfl, h2, h3⟩ := hD hv
    exact ⟨a, ws, rfl, rd_ex ef h2, q _ (by show V.int (ws.length : Int) = V.int _; rw [h3.len])⟩
theorem EV.lenLK {L : Rl (List α)} (hL : Lis L R) (ha : AV X b Γ [e] [mk L as]) (hm : X.mg "len" = none) (hg : Gl X "len" := by rfl) (he : starEach [e] X.env = (false, eval e X.env) :: starEach [] X.env := by rfl) : EV X b Γ (.Call (.Name "len" p) [e] [] pos) (im rI (as.length : Int)) :=
  EV.c1 ha (fun h => pe_callB call_len_seq hg hm (by decide +kernel) h (he := he) (hpl := rfl)) fun F H v ef hv Q q => by
    obtain ⟨a, xs, rfl, h2, h3⟩ := hL hv
    exact ⟨a, xs, rfl, .inl (sq_ex ef h2), q _ (by show V.int (xs.length : Int) = V.int _; rw [h3.len])⟩
/-- l[i], l data either way -/
theorem EV.ixLK {L : Rl (List α)} {a : α} {i : Int} (hL : Lis L R) (h : EV X b Γ e1 (im L as)) (hi : EV X b Γ e2 (im rI i)) (ha : atI as i = some a) (hs : PlainIx e2 := by exact (fun _ _ => rfl)) : EV X b Γ (.Subscript e1 e2 pos) (im R a) :=
  EV.of (pe_ix ix_list pe_w pe_w hs) (EvS.op2i h hi fun F H v w e hv hw Q q => by
    obtain ⟨p, xs, rfl, h2, h3⟩ := hL hv
    obtain ⟨u, k1, k2⟩ := atI_all h3 ha
    exact ⟨p, xs, i, u, rfl, hw, sq_ex e h2, k1, q u k2⟩)
theorem EV.fromLK {L : Rl (List α)} {m : Nat} {p2 : Pos} (hL : Lis L R) (ha : EV X b Γ e1 (im L as)) (hb : EV X b Γ e2 (im rI (m : Int))) : EV X b Γ (.Subscript e1 (.Slice (some e2) none none p2) pos) (ow R (as.drop m)) :=
  EV.of (pe_slice sl_list pe_w (po_some pe_w) po_none) fun σ F H l g d Q q => ha σ F H l g d _ fun v F1 H1 l1 w1 ⟨_, hv⟩ _ => hb σ F1 H1 l (g.grow w1) (d.grow g.t w1) _ fun u F2 H2 l2 w2 p2 _ => by
    obtain ⟨a, xs, rfl, h2, h3⟩ := hL hv
    exact ⟨(m : Int), p2.2, a, xs, rfl, sq_ex (w1.e.trans w2.h) h2, fun p hp => q _ F2 _ [p] ((w1.trans w2).trans (Gw.own w2.e hp))
      ⟨p, _, rfl, rfl, upd_same, by rw [cutV_from]; exact (h3.imp fun _ _ => R.m w2.f).drop m⟩ fun c' hc' => by rw [List.mem_singleton.mp hc']; exact ⟨ex_none (w1.trans w2).h hp, ex_none w2.e hp⟩⟩
end
/-! == of two sides that are told apart -/
section
variable {X : Cx} {b : Bs} {Γ : Ctx} {α β : Type} {R R' : Rl α} {S : Rl β} {x y : α} {D : α → PyData} {D2 : β → PyData} {n m : Nat} {e1 e2 : Expr} {pos : Pos} {K : PySem.W.Frag}
theorem TV.neW2 [DecidableEq α] (d : Dw X.K R D n) (d' : Dw X.K R' D n) (hn : n ≤ 64) (hu : X.A.units + 64 < cLine) (hx : (D x).canLay0 = true) (hy : (D y).canLay0 = true) (ha : EV X b Γ e1 (im R x)) (hb : EV X b Γ e2 (im R' y)) : TV X b Γ (.Compare e1 [.NotEq] [e2] pos) (!decide (x = y)) := TV.of (pt_cmpR (op_neD hu) pe_w pe_w (nomark _)) (TvS.test (EvS.op2i ha hb fun F H v w ef h1 h2 Q q =>
  ⟨_, _, d.rep (R.m ef h1), d'.rep (R'.m ef h2), d.shaped hn hx, d.shaped hn hy, q _ (by
    show V.bl _ = V.bl _
    congr 2
    rw [Bool.eq_iff_iff, d.eqv]; simp)⟩))
theorem Dw.pair (d : Dw K R D n) (d2 : Dw K S D2 m) : Dw K (rP R S) (fun c => .tuple [D c.1, D2 c.2]) (max n m + 1) := ⟨fun ⟨p, u, v, h1, h2, h3, h4⟩ => by
  rw [h1]
  exact .tup (SqT.of h2) (.cons (d.rep h3) (.cons (d2.rep h4) .nil)), fun c => by
  show max (D c.1).depth (max (D2 c.2).depth 0) + 1 ≤ _
  have := d.dep c.1
  have := d2.dep c.2
  omega, fun a c => by
  show (PyData.eqv (D a.1) (D c.1) && (PyData.eqv (D2 a.2) (D2 c.2) && true)) = true ↔ _
  rw [Bool.and_true, Bool.and_eq_true, d.eqv, d2.eqv]
  exact ⟨fun ⟨h1, h2⟩ => Prod.ext h1 h2, fun h => h ▸ ⟨rfl, rfl⟩⟩⟩
end
end Lg

namespace Lg
open PySem L2 Evl PyProof.Rows
section
variable {X : Cx} {b : Bs} {Γ : Ctx} {β : Type} {S : Rl β} {kvs : List (Key × β)} {e : Expr} {c : Bool}
/-- a dict of one's own, locked while a test is made -/
theorem TV.lendK (i : Nat) (hΓ : Γ[i]? = some (some (owD S kvs))) (h : TV X b (Γ.set i (some (im (rDK S) kvs))) e c) : TV X b Γ e c := fun σ F H l g d Q q pins s I => by
  obtain ⟨v, l1, h1, ⟨p, ws, rfl, rfl, h4, h5⟩, h6, h7⟩ := g.frz d.nd hΓ
  have hp := h6 p (List.mem_singleton.mpr rfl)
  have fp := d.of p hp
  have bp := d.ob p hp
  obtain ⟨od, I1⟩ := I.lock h4 trivial
  obtain ⟨l2, k1, k2, k3⟩ := h7 (upd F p (.frz od (.dK ws))) (im (rDK S) kvs) (Ex.new fp) ⟨rfl, p, od, ws, rfl, upd_same, h5.imp fun _ _ => S.m (Ex.new fp)⟩
  have g2 : SgL (upd F p (.frz od (.dK ws))) (upd H p (.frz od (.dK ws))) (Γ.set i (some (im (rDK S) kvs))) σ l2 := k1.m (Ex.refl _) fun a ha => upd_ne fun z => (k3 a ha).2 (List.mem_singleton.mpr z)
  have d2 : Gd b (upd F p (.frz od (.dK ws))) (upd H p (.frz od (.dK ws))) l2 := ⟨d.ef.trans (Ex.new fp), Ex.mut d.eb bp, fun a u ha => by
    by_cases z : a = p
    · subst z; rw [upd_same] at ha ⊢; exact ha
    · rw [upd_ne z] at ha ⊢; exact d.e a u ha, fun a q1 q2 => by
    rw [upd_ne fun z => q2 (by rw [z]; exact bp)]; exact d.k a q1 q2, k2, fun a ha => by
    rw [upd_ne fun z => (k3 a ha).2 (List.mem_singleton.mpr z)]; exact d.of a (k3 a ha).1, fun a ha => d.ob a (k3 a ha).1⟩
  refine thn (h σ _ _ l2 g2 d2 (fun c H' => H' p = some (.frz od (.dK ws)) ∧ Q c (upd H' p (.dK ws))) (fun F' H' w => ?_) pins s I1) fun c s1 ⟨H', I2, e2, q2⟩ => ⟨_, I2.unlock e2 (I.nofrz h4 trivial), q2⟩
  have hpH : H' p = some (.frz od (.dK ws)) := w.h p _ upd_same
  refine ⟨hpH, q (fun a => if a = p then none else F' a) _ ⟨fun a u ha => ?_, fun a u ha => ?_, fun a u ha => ?_, fun a h1 h2 => ?_⟩⟩
  · have z : a ≠ p := ne_of_none ha fp
    show (if a = p then none else F' a) = some u
    rw [if_neg z]
    exact w.f a u (by rw [upd_ne z]; exact ha)
  · by_cases z : a = p
    · subst z; rw [h4] at ha; rw [upd_same]; exact ha
    · rw [upd_ne z]; exact w.h a u (by rw [upd_ne z]; exact ha)
  · have ha : (if a = p then none else F' a) = some u := ha
    by_cases z : a = p
    · rw [if_pos z] at ha; cases ha
    · rw [if_neg z] at ha; rw [upd_ne z]; exact w.e a u ha
  · show (if a = p then none else F' a) = none
    by_cases z : a = p
    · rw [if_pos z]
    · rw [if_neg z]; exact w.k a (by rw [upd_ne z]; exact h1) (by rw [upd_ne z]; exact h2)
end
end Lg

namespace Lg
open PySem L2 Evl PyProof.Rows
theorem EV.castO {X : Cx} {b : Bs} {Γ : Ctx} {e : Expr} {α : Type} {R : Rl α} {as bs : List α} (h : EV X b Γ e (ow R as)) (q : as = bs) : EV X b Γ e (ow R bs) := q ▸ h
section
variable {X : Cx} {b : Bs} {C : EndC} {Γ : Ctx} {n : Str} {e : Expr} {pos pos' : Pos} {rest : List Stmt} {a c : Int}
theorem ip_mul' : PIp X .Mult (L2.rI CMul fun i j => .int (i * j)) := iop_mul
theorem HT.augM (i : Nat) (hΓ : Γ[i]? = some (some (im rI a))) (he : EV X b Γ e (im rI c)) (hc : CMul a c) (k : HT X b C (Γ.set i (some (im rI (a * c)))) rest) (nd : X.N.Nodup) (hi : X.N[i]? = some n := by rfl) (hx : Loc X.env.scope n := by first | exact Or.inl rfl | exact Or.inr rfl)
    (hf : X.fn n = true ∨ X.env.scope.names.lookup n = some .local := by first | exact .inl rfl | exact .inr rfl | assumption) : HT X b C Γ (.AugAssign (.Name n pos') .Mult e pos :: rest) :=
  HT.step (ps_aug nd hi hx pe_w ip_mul' hf) fun σ F H ⟨l, g, d⟩ => by
    obtain ⟨v, l1, h1, h2, _⟩ := g.get hΓ
    refine ⟨v, h1, he σ F H l g d _ fun u F' H' l' w p _ => ⟨a, c, h2.2, p.2, hc, k _ _ _ (Sg.put (s := im rI (a * c)) (l' := []) i g d w ⟨rfl, rfl⟩ fun _ h => nomatch h)⟩⟩
end
end Lg

namespace Lg
open PySem L2 Evl PyProof.Rows
section
variable {X : Cx} {b : Bs} {Γ Γ' : Ctx} {α β γ : Type} {R : Rl α} {S : Rl β} {T : Rl γ} {as : List α} {e : Expr} {es elts : List Expr} {kk : Nat} {p pos tpos : Pos}
/-- enumerate(l), l data either way -/
theorem IV.enumL {L : Rl (List α)} (hL : Lis L R) (h : AV X b Γ [e] [mk L as]) (hm : X.mg "enumerate" = none) (hg : Gl X "enumerate" := by rfl) (hs : starEach [e] X.env = [(false, eval e X.env)] := by rfl) :
    IV X b Γ (.Tuple elts kk tpos) (.Call (.Name "enumerate" p) [e] [] pos) (enL as).length (IL (rP rI R) (enL as)) := by
  refine IV.enumE ?_
  obtain ⟨ta, h1, h2⟩ := h
  refine ⟨_, pi_enum hg hm h1 hs, fun σ F H l g d Q q => h2 σ F H l g d _ fun vs F1 H1 w k => ?_⟩
  obtain ⟨v, rfl, hv⟩ := ims1 k
  obtain ⟨a, xs, rfl, hp, hx⟩ := hL (show L.r F1 v as from hv)
  refine ⟨a, xs, rfl, sq_ex w.e hp, q _ F1 H1 w (by
    have hl := hx.len
    rw [show as.length = xs.length from hl.symm]
    have sx : ∀ {F' H' : Hp}, Ex F1 F' → Ex F' H' → SqL X.K H' a xs := fun e1 e2 => sq_ex (e1.trans e2) hp
    refine ⟨_, _, walk_enum, fun F' H' e1 e2 => sx e1 e2, fun i F' H' v H'' hi e1 e2 y => ?_⟩
    obtain ⟨T, x, y, rfl, hT, rfl, k1, k2⟩ := y
    cases k1
    obtain ⟨a0, z1, z2⟩ := All2.getV hx k2
    exact ⟨_, mk (rP rI R) ((i : Int), a0), Gw.new e2 hT, ⟨a0, z1, rfl⟩, T, _, _, rfl, upd_same, rfl, R.m (e1.trans (Ex.new (ex_none e2 hT))) z2⟩)⟩
theorem GV.tri {c : α × β × γ} (h : GsV X b Γ es [mk R c.1, mk S c.2.1, mk T c.2.2] Γ') (hs : ∀ {t : TGs}, PGs X es t → PG X (.Tuple es kk pos) (gTup X.K 3 t) := by exact fun h => pg_tup (by rfl) h) : GV X b Γ (.Tuple es kk pos) (mk (rP3 R S T) c) Γ' := by
  obtain ⟨g1, p1, k1⟩ := h
  refine ⟨_, hs p1, fun σ F H v g ⟨a, u, w, x, h1, h2, h3, h4, h5⟩ Q q => ⟨a, _, h1, ?_, rfl, k1 σ F H _ g (.cons h3 (.cons h4 (.cons h5 .nil))) Q q⟩⟩
  obtain ⟨l, g, d⟩ := g
  exact SqT.of (d.e a _ h2)
end
end Lg

namespace Lg
open PySem L2 Evl PyProof.Rows
/-! ### constants, in a box: Lean looks whether a rule's result is a function, and runs the model for it where all is constant -/
structure Ev1 (X : Cx) (b : Bs) (Γ : Ctx) (e : Expr) (s : Sl) : Prop where
  h : EV X b Γ e s
structure Hq (X : Cx) (b : Bs) (C : EndC) (Γ : Ctx) (sts : List Stmt) : Prop where
  h : HT X b C Γ sts
section
variable {X : Cx} {b : Bs} {C : EndC} {Γ : Ctx} {α β : Type} {R : Rl α} {S : Rl β} {x x2 x3 x4 : α} {y : β} {as bs : List α} {e e1 e2 e3 e4 : Expr} {pos pos' : Pos} {n : Str} {rest : List Stmt} {s : Sl}
theorem Ev1.str {z : Str} {j : Nat} : Ev1 X b Γ (.Constant (.str z) j pos) (im rS z) := ⟨EV.str⟩
theorem Ev1.nil : Ev1 X b Γ (.List [] pos) (im (rL R) []) := ⟨EV.fz (EV.lst (R := R) (as := []) AV.nil rfl (by show 0 ≤ 1000; decide))⟩
theorem Ev1.l1 (h : Ev1 X b Γ e (im R x)) (s1 : starEach [e] X.env = (false, eval e X.env) :: starEach [] X.env := by rfl) : Ev1 X b Γ (.List [e] pos) (im (rL R) [x]) := ⟨EV.fz (EV.lst (R := R) (as := [x]) (AV.cons h.h AV.nil s1) rfl (by show 1 ≤ 1000; decide))⟩
theorem Ev1.l2 (h : Ev1 X b Γ e1 (im R x)) (h2 : Ev1 X b Γ e2 (im R x2)) (s1 : starEach [e1, e2] X.env = (false, eval e1 X.env) :: starEach [e2] X.env := by rfl) (s2 : starEach [e2] X.env = (false, eval e2 X.env) :: starEach [] X.env := by rfl) : Ev1 X b Γ (.List [e1, e2] pos) (im (rL R) [x, x2]) := ⟨EV.fz (EV.lst (R := R) (as := [x, x2]) (AV.cons h.h (AV.cons h2.h AV.nil s2) s1) rfl (by show 2 ≤ 1000; decide))⟩
theorem Ev1.l3 (h : Ev1 X b Γ e1 (im R x)) (h2 : Ev1 X b Γ e2 (im R x2)) (h3 : Ev1 X b Γ e3 (im R x3)) (s1 : starEach [e1, e2, e3] X.env = (false, eval e1 X.env) :: starEach [e2, e3] X.env := by rfl) (s2 : starEach [e2, e3] X.env = (false, eval e2 X.env) :: starEach [e3] X.env := by rfl) (s3 : starEach [e3] X.env = (false, eval e3 X.env) :: starEach [] X.env := by rfl) : Ev1 X b Γ (.List [e1, e2, e3] pos) (im (rL R) [x, x2, x3]) := ⟨EV.fz (EV.lst (R := R) (as := [x, x2, x3]) (AV.cons h.h (AV.cons h2.h (AV.cons h3.h AV.nil s3) s2) s1) rfl (by show 3 ≤ 1000; decide))⟩
theorem Ev1.l4 (h : Ev1 X b Γ e1 (im R x)) (h2 : Ev1 X b Γ e2 (im R x2)) (h3 : Ev1 X b Γ e3 (im R x3)) (h4 : Ev1 X b Γ e4 (im R x4)) (s1 : starEach [e1, e2, e3, e4] X.env = (false, eval e1 X.env) :: starEach [e2, e3, e4] X.env := by rfl) (s2 : starEach [e2, e3, e4] X.env = (false, eval e2 X.env) :: starEach [e3, e4] X.env := by rfl) (s3 : starEach [e3, e4] X.env = (false, eval e3 X.env) :: starEach [e4] X.env := by rfl) (s4 : starEach [e4] X.env = (false, eval e4 X.env) :: starEach [] X.env := by rfl) : Ev1 X b Γ (.List [e1, e2, e3, e4] pos) (im (rL R) [x, x2, x3, x4]) := ⟨EV.fz (EV.lst (R := R) (as := [x, x2, x3, x4]) (AV.cons h.h (AV.cons h2.h (AV.cons h3.h (AV.cons h4.h AV.nil s4) s3) s2) s1) rfl (by show 4 ≤ 1000; decide))⟩
theorem Ev1.pr {k : Nat} (h : Ev1 X b Γ e1 (im R x)) (h2 : Ev1 X b Γ e2 (im S y)) (s1 : starEach [e1, e2] X.env = (false, eval e1 X.env) :: starEach [e2] X.env := by rfl) (s2 : starEach [e2] X.env = (false, eval e2 X.env) :: starEach [] X.env := by rfl) : Ev1 X b Γ (.Tuple [e1, e2] k pos) (im (rP R S) (x, y)) := ⟨EV.pair (AV.cons h.h (AV.cons h2.h AV.nil s2) s1)⟩
theorem EV.catC (ha : EV X b Γ e1 (im (rL R) as)) (hb : Ev1 X b Γ e2 (im (rL R) bs)) (hz : as.length + bs.length ≤ 100000) : EV X b Γ (.BinOp e1 .Add e2 pos) (im (rL R) (as ++ bs)) := EV.fz (EV.cat ha hb.h hz)
theorem Hq.set (i : Nat) (he : Ev1 X b Γ e s) (k : Hq X b C (Γ.set i (some s)) rest) (nd : X.N.Nodup) (hi : X.N[i]? = some n := by rfl) (hx : Loc X.env.scope n := by first | exact Or.inl rfl | exact Or.inr rfl) (hs : swapsWith e (some (.Name n pos')) pos.line X.env = pure false := by rfl)
    (hf : X.fn n = true ∨ X.env.scope.names.lookup n = some .local := by first | exact .inl rfl | exact .inr rfl | assumption) : Hq X b C Γ (.Assign [.Name n pos'] e pos :: rest) := ⟨HT.set i he.h k.h nd hi hx hs hf⟩
end
section
variable {P : Program} {w : World} {K : PySem.W.Frag} {mg : Str → Option Value} {base : Heap} {x qual : Str} {st : Stmt} {f : Addr} {fd : FuncData} {N ps : List Str} {k : Nat} {ι : Type} {A : ι → List Im} {pre : ι → Prop} {res : ι → Rs}
theorem fn_okq (F : Fun K x qual st f fd) (S : FnScope N ps (defScope st)) (hA : ∀ i, (A i).length = ps.length)
    (body : ∀ (i : ι) (B : Bs) (cdv : Value) (A' : Around) (outer : List Env) (s : Shared) (H : Hp) (E : XK), pre i → Room k (A'.deeper (envOfC qual (defScope st) s.heap.objs.size f cdv)) → (∀ C, res i = .err C → ∀ H', Ex B.B H' → E (.ref C) none H') →
      Hq (cxOf (L2N.CX P w) P w K mg base N qual (defScope st) f cdv A' outer s H E) B ⟨fun _ => res i = .ok (im rU ()), fun s => res i = .ok s, fun _ => False, fun _ => False⟩ (c0 (A i) (N.length - ps.length)) (defBody st)) :
    FnOk P w K mg base (L2N.CX P w) (k + 1) f fd ps (spX A pre res) :=
  fn_ok F S hA fun i B cdv A' outer s H E h1 h2 h3 => (body i B cdv A' outer s H E h1 h2 h3).h
end
end Lg

namespace K2
open PySem L2 Evl Lg PyProof.Rows
def topS (i : Nat) : Stmt := PySem.Challenge.pw_cellguard_k02_plans.main.body.getD i (.Pass ⟨0, 0, 0, 0⟩)
abbrev sIsName : Stmt := topS 10
abbrev sFits : Stmt := topS 12
abbrev sChecked : Stmt := topS 13
/-- what the top holds -/
structure Tp (K : PySem.W.Frag) (mg : Str → Option Value) (CP CU CT : Addr) : Prop where
  rng : mg "range" = none
  len : mg "len" = none
  lst : mg "list" = none
  all : mg "all" = none
  abs : mg "abs" = none
  int : mg "int" = none
  isi : mg "isinstance" = none
  lets : ∃ t, mg "LETTERS" = some (.str "abcdefghijklmnopqrstuvwxyz" t)
  chrs : ∃ t, mg "NAME_CHARACTERS" = some (.str "abcdefghijklmnopqrstuvwxyz0123456789-" t)
  long : ∃ t, mg "LONGEST_NAME" = some (.int 12 t)
  ep : ErrC K mg "InvalidPlan" CP
def alnum (c : Nat) : Bool := decide (97 ≤ c ∧ c ≤ 122) || decide (48 ≤ c ∧ c ≤ 57) || decide (c = 45)
def lower (c : Nat) : Bool := decide (97 ≤ c ∧ c ≤ 122)
def nameB (z : Str) : Bool := match cs z with
  | [] => false
  | c :: r => decide (z.length ≤ 12) && lower c && (c :: r).all alnum
theorem lets_in (c : Nat) : decide (c ∈ cs ("abcdefghijklmnopqrstuvwxyz" : Str)) = lower c := by
  have : cs ("abcdefghijklmnopqrstuvwxyz" : Str) = [97, 98, 99, 100, 101, 102, 103, 104, 105, 106, 107, 108, 109, 110, 111, 112, 113, 114, 115, 116, 117, 118, 119, 120, 121, 122] := by decide +kernel
  rw [this, lower, Bool.eq_iff_iff]
  simp only [decide_eq_true_eq, List.mem_cons, List.not_mem_nil, or_false]
  omega
theorem chrs_in (c : Nat) : decide (c ∈ cs ("abcdefghijklmnopqrstuvwxyz0123456789-" : Str)) = alnum c := by
  have : cs ("abcdefghijklmnopqrstuvwxyz0123456789-" : Str) = [97, 98, 99, 100, 101, 102, 103, 104, 105, 106, 107, 108, 109, 110, 111, 112, 113, 114, 115, 116, 117, 118, 119, 120, 121, 122, 48, 49, 50, 51, 52, 53, 54, 55, 56, 57, 45] := by decide +kernel
  rw [this, alnum, Bool.eq_iff_iff]
  simp only [Bool.or_eq_true, decide_eq_true_eq, List.mem_cons, List.not_mem_nil, or_false]
  omega
section
variable {P : Program} {w : World} {K : PySem.W.Frag} {mg : Str → Option Value} {base : Heap} {CP CU CT : Addr}
abbrev nIsName : List Str := ["text", "character"]
theorem scIsName : FnScope nIsName ["text"] (defScope sIsName) := ⟨rfl, rfl, rfl, by decide +kernel, rfl, by decide +kernel, by decide +kernel⟩
def spIsName : Sp := spX (ι := Str) (fun i => [mk rS i]) (fun i => i.length ≤ 1000) (fun i => .ok (im rB (nameB i)))
theorem ok_isName {f : Addr} {fd : FuncData} (F : Fun K "is_name" "is_name" sIsName f fd) (T : Tp K mg CP CU CT) : FnOk P w K mg base (L2N.CX P w) 1 f fd ["text"] spIsName := by
  refine fn_ok F scIsName (fun _ => rfl) fun z B cdv A' outer s H E hp hr _ => ?_
  have hp : z.length ≤ 1000 := hp
  have nd := scIsName.nd
  obtain ⟨t1, g1⟩ := T.lets
  obtain ⟨t2, g2⟩ := T.chrs
  obtain ⟨t3, g3⟩ := T.long
  conv => arg 5; whnf
  show HT _ _ _ [some (im rS z), none] _
  refine HT.when (TV.not (TV.leLe EV.int (EV.lenS (AV.cons (EV.var 0) AV.nil) (Nat.le_trans hp (by decide)) T.len) (EV.gl (R := rI) (v := .int 12) g3 ⟨_, rfl⟩ fun F => rfl))) (fun h => HT.ret EV.bl ?_) (fun h => ?_)
  · show Rs.ok _ = Rs.ok _
    have hl := cs_len z
    unfold nameB
    cases q : cs z with
    | nil => rfl
    | cons c r =>
      rw [q] at hl
      simp only [List.length_cons] at hl
      simp at h
      have : ¬ z.length ≤ 12 := by omega
      simp [this]
  · simp at h
    have hl := cs_len z
    cases q : cs z with
    | nil => rw [q] at hl; simp at hl; omega
    | cons c r =>
      refine HT.ret (EV.andV (EV.inSg (EV.chr (c := c) (EV.var 0) EV.int (by decide) (by decide) (by rw [q]; rfl)) (EV.gl (R := rS) (v := .str _) g1 ⟨_, rfl⟩ fun F => rfl)) fun _ => EV.all (AV.cons (EV.fz (LV.ev (LV.lcL0 (j := 1) (S := rB) (fun x : Str => decide (x.cps.toList.headD 0 ∈ cs ("abcdefghijklmnopqrstuvwxyz0123456789-" : Str))) (IV.chars (EV.var 0)) nd (by show blkC nIsName (defScope sIsName) _ [("character", 1)] = true; decide +kernel) (by rw [List.length_map, hl]; omega) (fun b' i a s H0 C cl fp hb ha => ?_) (fun _ _ _ _ _ => pg_name nd rfl (Or.inl rfl))))) AV.nil) T.all) ?_
      · rw [List.getElem?_map] at ha
        cases z1 : (cs z)[i]? with
        | none => rw [z1] at ha; cases ha
        | some d =>
          rw [z1] at ha; cases ha
          exact EV.inSg (EV.var 1) (EV.gl (R := rS) (v := .str _) g2 ⟨_, rfl⟩ fun F => rfl)
      · show Rs.ok _ = Rs.ok _
        unfold nameB
        rw [q]
        dsimp only
        have h12 : z.length ≤ 12 := by omega
        rw [decide_eq_true h12, Bool.true_and, lets_in]
        congr 3
        rw [List.map_map, List.all_map]
        congr 1
        funext d
        exact (chrs_in d).symm
end
end K2

namespace K2
open PySem L2 Evl Lg PyProof.Rows
abbrev Ar := List (Str × Option Str)
def mem? (ns : List Str) : Option Str → Bool
  | none => false
  | some p => decide (p ∈ ns)
/-- the rules for one more area -/
def fitsB (ns : List Str) (name : Str) (parent : Option Str) : Bool :=
  if !nameB name || decide (name ∈ ns) then false else if ns = [] then parent.isNone else mem? ns parent
def seqB : List Str → Ar → Bool
  | _, [] => true
  | seen, (n, p) :: r => fitsB seen n p && seqB (seen ++ [n]) r
theorem seqB_app (r : Ar) : ∀ (l : Ar) (seen : List Str), seqB seen (l ++ r) = (seqB seen l && seqB (seen ++ l.map (·.1)) r)
  | [], seen => by simp [seqB]
  | (n, p) :: l, seen => by
    show (fitsB seen n p && seqB (seen ++ [n]) (l ++ r)) = (fitsB seen n p && seqB (seen ++ [n]) l && seqB (seen ++ n :: l.map (·.1)) r)
    rw [seqB_app r l, Bool.and_assoc, List.append_assoc]; rfl
theorem u1 {k : Nat} {A : Around} (hr : Room k A) : A.units + 1 < cLine := Nat.lt_of_le_of_lt (Nat.add_le_add_left (by decide : 1 ≤ 64) _) hr.units
def treeB (areas : Ar) : Bool := seqB [] areas && !areas.isEmpty
section
variable {P : Program} {w : World} {K : PySem.W.Frag} {mg : Str → Option Value} {base : Heap} {CP CU CT : Addr}
abbrev nFits : List Str := ["parents", "name", "parent"]
theorem scFits : FnScope nFits ["parents", "name", "parent"] (defScope sFits) := ⟨rfl, rfl, rfl, by decide +kernel, rfl, by decide +kernel, by decide +kernel⟩
abbrev rArea : Rl (Str × Option Str) := rP rS (rO rS)
def spFits : Sp := spX (ι := Ar × Str × Option Str) (fun i => [mk (rD (rO rS)) (kvS i.1), mk rS i.2.1, mk (rO rS) i.2.2]) (fun i => i.2.1.length ≤ 1000) (fun i => .ok (im rB (fitsB (i.1.map (·.1)) i.2.1 i.2.2)))
theorem ok_fits {f : Addr} {fd : FuncData} (F : Fun K "area_fits" "area_fits" sFits f fd) (T1 : Kn P w K mg base 1 "is_name" ["text"] spIsName) : FnOk P w K mg base (L2N.CX P w) 2 f fd ["parents", "name", "parent"] spFits := by
  refine fn_ok F scFits (fun _ => rfl) fun ⟨l, z, o⟩ B cdv A' outer s H E hp hr _ => ?_
  have hp : z.length ≤ 1000 := hp
  have tk : L2N.Takes (cxOf (L2N.CX P w) P w K mg base nFits "area_fits" (defScope sFits) f cdv A' outer s H E) (fun cls d _ H => E cls d H) := L2N.takes_of rfl rfl rfl rfl
  have hu := u1 hr
  conv => arg 5; whnf
  show HT _ _ _ [some (im (rD (rO rS)) (kvS l)), some (im rS z), some (im (rO rS) o)] _
  have hm : (kget (kvS l) (Sum.inr z)).isSome = decide (z ∈ l.map (·.1)) := kget_some l z
  have he : (kvS l).isEmpty = decide (l.map (·.1) = []) := by cases l <;> rfl
  refine HT.when (TV.or (TV.not (TV.val (EV.call (i := z) T1 (hr.mono (by decide)) tk (AV.cons (EV.var 1) AV.nil) hp rfl))) fun _ => TV.inK (k := Sum.inr z) Dic.pl hu (EV.var 1) (fun F v h => h) (EV.var 0)) (fun h => HT.ret EV.bl ?_) (fun h => ?_)
  · show Rs.ok _ = Rs.ok _
    rw [hm] at h
    unfold fitsB
    rw [if_pos h]
  rw [hm] at h
  refine HT.when (TV.not (TV.truK Dic.pl (EV.var 0))) (fun h2 => HT.ret (EV.isNon (EV.var 2) fun F v x h => by rw [show v = V.str x from h]; exact fun z => nomatch z) ?_) (fun h2 => HT.ret (EV.inN Dic.pl hu (EV.var 2) (EV.var 0)) ?_)
  · show Rs.ok _ = Rs.ok _
    rw [Bool.not_not, he] at h2
    unfold fitsB
    dsimp only
    rw [h, if_neg (by decide), if_pos (of_decide_eq_true h2)]
  · show Rs.ok _ = Rs.ok _
    rw [Bool.not_not, he] at h2
    unfold fitsB
    dsimp only
    rw [h, if_neg (by decide), if_neg (of_decide_eq_false h2)]
    cases o with
    | none => rfl
    | some q =>
      show _ = Rs.ok (im rB (kget (kvS l) (Sum.inr q)).isSome)
      rw [kget_some]; rfl
abbrev nChecked : List Str := ["areas", "parents", "name", "parent"]
theorem scChecked : FnScope nChecked ["areas"] (defScope sChecked) := ⟨rfl, rfl, rfl, by decide +kernel, rfl, by decide +kernel, by decide +kernel⟩
theorem fb {n : Nat} (a b : Nat) (ha : a ≤ 1000) (hb : b ≤ 1000) (hn : n ≤ 1000) : a + (n + (b + 0)) ≤ sizeLine := by
  rw [sizeLine_eq]; omega
def AreasOk (l : Ar) : Prop := l.length ≤ 1000 ∧ ∀ p ∈ l, p.1.length ≤ 1000
def spChecked (CP : Addr) : Sp := spX (ι := Ar) (fun i => [mk (rL rArea) i]) AreasOk (fun i => if treeB i then .ok (im (rDK (rO rS)) (kvS i)) else .err CP)
theorem ok_checked {f : Addr} {fd : FuncData} (F : Fun K "checked_parents" "checked_parents" sChecked f fd) (T : Tp K mg CP CU CT) (T1 : Kn P w K mg base 2 "area_fits" ["parents", "name", "parent"] spFits) : FnOk P w K mg base (L2N.CX P w) 3 f fd ["areas"] (spChecked CP) := by
  refine fn_ok F scChecked (fun _ => rfl) fun l B cdv A' outer s H E ⟨hl, hn⟩ hr hE => ?_
  have tk : L2N.Takes (cxOf (L2N.CX P w) P w K mg base nChecked "checked_parents" (defScope sChecked) f cdv A' outer s H E) (fun cls d _ H => E cls d H) := L2N.takes_of rfl rfl rfl rfl
  have hu := u1 hr
  have nd := scChecked.nd
  conv => arg 5; whnf
  show HT _ _ _ [some (im (rL rArea) l), none, none, none] _
  have bad : treeB l = false → ∀ C', Rs.err CP = Rs.err C' → (if treeB l then Rs.ok (im (rDK (rO rS)) (kvS l)) else Rs.err CP) = Rs.err C' := fun h C' e => by rw [h]; exact e
  refine HT.set 1 (EV.dict0 (S := rO rS)) ?_ nd
  refine HT.for (IV.list (EV.var 0)) (fun k Γ => Γ = [some (im (rL rArea) l), some (owD (rO rS) (kvS (l.take k))), none, none] ∧ seqB [] (l.take k) = true) ⟨rfl, rfl⟩ ?_ ?_ (passes_of rfl)
  · rintro b' i y Γ' hb hi ⟨⟨z, o⟩, hx, rfl⟩ ⟨rfl, hseq⟩
    have hz : z.length ≤ 1000 := hn _ (List.mem_of_getElem? hx)
    have ht1 : l.take (i + 1) = l.take i ++ [(z, o)] := by rw [List.take_add_one, hx]; rfl
    refine ⟨_, GV.pair (R := rS) (S := rO rS) (c := (z, o)) (GsV.cons (GV.name 2 nd) (GsV.cons (GV.name 3 nd) GsV.nil)), ?_⟩
    refine HT.when (TV.not (TV.val (EV.lendD 1 rfl NoL.bool (EV.call (i := (l.take i, z, o)) T1 (hr.mono (by decide)) tk (AV.cons (EV.var 1) (AV.cons (EV.var 2) (AV.cons (EV.var 3) AV.nil))) hz rfl)))) (fun h => ?_) (fun h => ?_)
    · refine HT.raise T.ep tk (EV.fstr (JV.str (JV.txt (EV.var 2) (Nat.le_trans hz (by decide)) (JV.str JV.nil))) (fb _ _ (by decide) (by decide) hz)) fun σ F H' ⟨l', _, d⟩ => hE CP (bad ?_ _ rfl) H' (hb ▸ d.eb)
      unfold treeB
      have hf : fitsB ((l.take i).map (·.1)) z o = false := by simpa using h
      have : seqB [] l = false := by
        conv => lhs; rw [← List.take_append_drop (i + 1) l, ht1, seqB_app, seqB_app, hseq]
        show (true && (fitsB ([] ++ (l.take i).map (·.1)) z o && true) && _) = false
        rw [List.nil_append, hf]; rfl
      rw [this]; rfl
    · have hf : fitsB ((l.take i).map (·.1)) z o = true := by simpa using h
      have hnew : z ∉ (l.take i).map (·.1) := by
        intro q
        unfold fitsB at hf
        rw [if_pos (by rw [decide_eq_true q, Bool.or_true])] at hf
        cases hf
      refine HT.putK (k := Sum.inr z) 1 rfl hu (EV.var 3) (EV.var 2) (fun F v h => h) (by show (kvS (l.take i)).length < 100000; unfold kvS; rw [List.length_map, List.length_take]; omega) ?_
      rw [kput_new _ _ _ hnew, ← ht1]
      refine HT.done (by repeat (first | exact Le.nil | apply Le.keep | apply Le.drop)) ⟨rfl, ?_⟩
      rw [ht1, seqB_app, hseq]
      show (true && (fitsB ([] ++ (l.take i).map (·.1)) z o && true)) = true
      rw [List.nil_append, hf]; rfl
  · rintro Γ' ⟨rfl, hseq⟩
    rw [List.take_length] at hseq ⊢
    refine HT.when (TV.lendD 1 rfl (TV.not (TV.truK Dic.pl (EV.var 1)))) (fun h => ?_) (fun h => ?_)
    · refine HT.raise T.ep tk (EV.strAny EV.str) fun σ F H' ⟨l', _, d⟩ => hE CP (bad ?_ _ rfl) H' d.eb
      unfold treeB
      cases l with
      | nil => rfl
      | cons a r =>
        have h : (!!false) = true := h
        exact absurd h (by decide)
    · refine HT.lkD 1 rfl ?_
      refine HT.ret (EV.var 1) ?_
      show _ = Rs.ok _
      have : treeB l = true := by
        unfold treeB
        rw [hseq]
        cases l with
        | nil => exact absurd h (by decide)
        | cons a r => rfl
      show (if treeB l then _ else _) = _
      rw [if_pos this]
end
end K2

namespace K2
open PySem L2 Evl Lg PyProof.Rows
abbrev sUInit : Stmt := inClass (topS 3) 0
abbrev sTree (i : Nat) : Stmt := inClass (topS 14) i
section
variable {P : Program} {w : World} {K : PySem.W.Frag} {mg : Str → Option Value} {base : Heap} {CP CU CT CB : Addr}
theorem scUInit : FnScope ["self", "name"] ["self", "name"] (defScope sUInit) := ⟨rfl, rfl, rfl, by decide +kernel, rfl, by decide +kernel, by decide +kernel⟩
theorem ok_uinit {f : Addr} {fd : FuncData} (F : Fun K "__init__" "UnknownName.__init__" sUInit f fd) (T : OexC K CU) (TB : BasC K mg "CellguardError" CB) (hno : PySem.W.findIn K (.ref CU) "name" = some none) :
    FnOk P w K mg base (L2N.CX P w) 1 f fd ["self", "name"] (fun vs H Q _ => ∃ (a : Addr) (z : Str), vs = [.ref a, .str z] ∧ z.length ≤ 1000 ∧ H a = some (exo a CU none) ∧ ∀ dx, H dx = none → dx ≠ a → Q .non (upd (upd H dx (exd dx [("name", .str z)])) a (exo a CU (some dx)))) := by
  refine okN F scUInit (fun vs H Q E ⟨a, z, e, _⟩ => by rw [e]; rfl) fun cdv A' outer s H vs Q E hr ⟨a, z, hv, hz, ha, k⟩ => ⟨_, pss_w, ?_⟩
  rw [hv]
  conv => arg 2; whnf
  show wS _ _ _ [some (.ref a), some (.str z)] H
  refine wS.of (pss_cons (ps_expr (pe_basinit TB (pa_cons (pe_var (i := 0) rfl (Or.inl rfl) (by decide) (by decide)) (pa_cons (pe_joined (PJ.cons (pe_fmt (pe_var (i := 1) rfl (Or.inl rfl) (by decide) (by decide))) (PJ.cons pe_str PJ.nil))) pa_nil))) rfl) (pss_one (ps_ost (pe_var (i := 0) rfl (Or.inl rfl) (by decide) (by decide)) (pe_var (i := 1) rfl (Or.inl rfl) (by decide) (by decide))))) ?_
  have hz' : z.length ≤ sizeLine := Nat.le_trans hz (by decide)
  refine ⟨_, rfl, _, rfl, .inl ⟨z, rfl, hz', z, rfl, ?_, _, rfl, ?_, a, CU, _, rfl, ?_, T, ha, ?_⟩⟩
  · rw [str_app_len, show Str.empty.length = 0 from rfl]; omega
  · rw [str_app_len, str_app_len, show Str.empty.length = 0 from rfl, sizeLine_eq]
    show 0 + z.length + 13 ≤ _
    omega
  · show 1 ≤ 1000; decide
  · exact ⟨_, rfl, _, rfl, a, CU, rfl, T, hno, .inl ⟨ha, fun dx hd hne => k dx hd hne⟩⟩
end
end K2

namespace K2
open PySem L2 Evl Lg PyProof.Rows
structure Tt (K : PySem.W.Frag) (CT : Addr) : Prop where
  c : Cls K CT
  nP : NoAttr K CT "_parents"
  nC : NoAttr K CT "_children"
  nR : NoAttr K CT "root"
/-- the areas that an area is the parent of -/
def kids (y : Ar) (n : Str) : List Str := (y.filter fun q => decide (q.2 = some n)).map (·.1)
def chil (y : Ar) : List (Str × List Str) := y.map fun p => (p.1, kids y p.1)
def rootOf (y : Ar) : Str := (y.headD ("", none)).1
def parOf (y : Ar) (n : Str) : Option Str := ((y.find? fun p => decide (p.1 = n)).map (·.2)).getD none
def leavesOf (y : Ar) : List Str := (y.map (·.1)).filter fun n => (kids y n).isEmpty
def treeF (y : Ar) : List (Str × Im) := [("_parents", mk (rDK (rO rS)) (kvS y)), ("_children", mk (rDK (rLK rS)) (kvS (chil y))), ("root", mk rS (rootOf y))]
abbrev rTree (CT : Addr) : Rl Ar := rObj CT treeF
theorem par_get {y : Ar} {n : Str} (h : n ∈ y.map (·.1)) : kget (kvS y) (Sum.inr n) = some (parOf y n) := by
  have q := kget_some y n
  rw [decide_eq_true h] at q
  rw [kget_kvS] at q ⊢
  unfold parOf
  cases z : (y.find? fun p => decide (p.1 = n)).map (·.2) with
  | none => rw [z] at q; cases q
  | some o => rfl
theorem chil_find (y : Ar) (n : Str) : ∀ l : Ar, ((l.map fun p => (p.1, kids y p.1)).find? fun p => decide (p.1 = n)).map (·.2) = if n ∈ l.map (·.1) then some (kids y n) else none := by
  intro l
  induction l with
  | nil => simp
  | cons p l ih =>
    rw [List.map_cons, List.find?_cons]
    by_cases h : p.1 = n
    · subst h; simp
    · have h' : ¬ n = p.1 := fun z => h z.symm
      rw [decide_eq_false (show ¬ (p.1, kids y p.1).1 = n from h)]
      dsimp only
      rw [ih, show (p :: l).map (·.1) = p.1 :: l.map (·.1) from rfl]
      by_cases hm : n ∈ l.map (·.1)
      · rw [if_pos hm, if_pos (List.mem_cons_of_mem _ hm)]
      · rw [if_neg hm, if_neg fun q => (List.mem_cons.mp q).elim h' hm]
theorem kid_get {y : Ar} {n : Str} (h : n ∈ y.map (·.1)) : kget (kvS (chil y)) (Sum.inr n) = some (kids y n) := by
  rw [kget_kvS]
  unfold chil
  rw [chil_find, if_pos h]
theorem kidLen (y : Ar) (n : Str) : (kids y n).length ≤ y.length := by
  unfold kids
  rw [List.length_map]
  exact List.length_filter_le _ _
theorem HT.chk {X : Cx} {b : Bs} {D : EndC} {Γ : Lg.Ctx} {e : Expr} {pos : Pos} {rest : List Stmt} {known : Prop} [Decidable known] (h1 : known → EV X b Γ e (im rU ())) (h2 : ¬ known → EV X b Γ e noS) (k : known → HT X b D Γ rest) (hs : swapsWith e none pos.line X.env = pure false := by rfl) : HT X b D Γ (.Expr e pos :: rest) := by
  by_cases h : known
  · exact HT.expr (h1 h) (k h) hs
  · exact HT.exprNo (h2 h) hs
section
variable {P : Program} {w : World} {K : PySem.W.Frag} {mg : Str → Option Value} {base : Heap} {CP CU CT CB : Addr}
/-! _check -/
theorem scCheck : FnScope ["self", "name"] ["self", "name"] (defScope (sTree 8)) := ⟨rfl, rfl, rfl, by decide +kernel, rfl, by decide +kernel, by decide +kernel⟩
def knownR (CU : Addr) (y : Ar) (n : Str) (s : Sl) : Ry := if n ∈ y.map (·.1) then .ok s else .errF CU [("name", .str n)]
theorem known_ok {y : Ar} {n : Str} {s : Sl} (hk : n ∈ y.map (·.1)) (s' : Sl) (h : knownR CU y n s = .ok s') : s' = s := by
  unfold knownR at h; rw [if_pos hk] at h; cases h; rfl
theorem known_err {y : Ar} {n : Str} {s : Sl} {C : Addr} (h : knownR CU y n s = .err C) : False := by
  unfold knownR at h; split at h <;> cases h
theorem known_noF {y : Ar} {n : Str} {s : Sl} {C : Addr} {fs : List (Str × V)} (hk : n ∈ y.map (·.1)) (h : knownR CU y n s = .errF C fs) : False := by
  unfold knownR at h; rw [if_pos hk] at h; cases h
theorem unk_ok {y : Ar} {n : Str} {s s' : Sl} (hk : n ∉ y.map (·.1)) (h : knownR CU y n s = .ok s') : False := by
  unfold knownR at h; rw [if_neg hk] at h; cases h
theorem unk_eq {y : Ar} {n : Str} {s : Sl} (hk : n ∉ y.map (·.1)) : knownR CU y n s = .errF CU [("name", .str n)] := if_neg hk
theorem unkF {b : Bs} {Γ : Lg.Ctx} {W : WX} {y : Ar} {n : Str} {s : Sl} {C : Addr} {fs : List (Str × V)} (hk : n ∉ y.map (·.1)) (h : knownR CU y n s = .errF C fs) (q : XwF b Γ W CU [("name", .str n)]) : XwF b Γ W C fs := by
  unfold knownR at h; rw [if_neg hk] at h; cases h; exact q
def spCheck (CT CU : Addr) : Sp := spY (ι := Ar × Str) (fun i => [mk (rTree CT) i.1, mk rS i.2]) (fun i => i.2.length ≤ 1000) (fun i => knownR CU i.1 i.2 (im rU ()))
theorem ok_check {f : Addr} {fd : FuncData} (F : Fun K "_check" "AreaTree._check" (sTree 8) f fd) (T : Tt K CT) (TU : FldC P w K mg base 1 "UnknownName" "name" CU) : FnOk P w K mg base (L2N.CX P w) 3 f fd ["self", "name"] (spCheck CT CU) := by
  refine fn_okY F scCheck (fun _ => rfl) fun ⟨y, z⟩ B cdv A' outer s H E hp hr hE hF => ?_
  have hp : z.length ≤ 1000 := hp
  have hu := u1 hr
  have tk : L2N.Takes (cxOf (L2N.CX P w) P w K mg base ["self", "name"] "AreaTree._check" (defScope (sTree 8)) f cdv A' outer s H E) (fun cls d _ H => E cls d H) := L2N.takes_of rfl rfl rfl rfl
  conv => arg 5; whnf
  show HT _ _ _ [some (im (rTree CT) y), some (im rS z)] _
  refine HT.when (TV.ninK (k := Sum.inr z) Dic.lk hu (EV.var 1) (fun F v h => h) (EV.fld (fs := treeF) (x := y) T.c (EV.var 0) rfl T.nP)) (fun h => ?_) (fun h => HT.nil ?_)
  · rw [kget_some] at h
    refine HT.raiseF TU hr tk (EV.var 1) hp fun σ F H' d ⟨l', _, dd⟩ hd => hF CU _ ?_ H' d dd.eb hd
    show knownR CU y z _ = _
    unfold knownR
    rw [if_neg (by simpa using h)]
  · rw [kget_some] at h
    show knownR CU y z _ = _
    unfold knownR
    rw [if_pos (by simpa using h)]
/-! names, parent, children, is_leaf, leaves -/
theorem scNames : FnScope ["self"] ["self"] (defScope (sTree 1)) := ⟨rfl, rfl, rfl, by decide +kernel, rfl, by decide +kernel, by decide +kernel⟩
def spNames (CT : Addr) : Sp := spX (ι := Ar) (fun i => [mk (rTree CT) i]) (fun _ => True) (fun i => .ok (ow rS (i.map (·.1))))
theorem ok_names {f : Addr} {fd : FuncData} (F : Fun K "names" "AreaTree.names" (sTree 1) f fd) (T : Tt K CT) (hl : mg "list" = none) : FnOk P w K mg base (L2N.CX P w) 1 f fd ["self"] (spNames CT) := by
  refine fn_ok F scNames (fun _ => rfl) fun y B cdv A' outer s H E _ hr _ => ?_
  conv => arg 5; whnf
  show HT _ _ _ [some (im (rTree CT) y)] _
  exact HT.ret (EV.listK Dic.lk (AV.cons (EV.fld (fs := treeF) (x := y) T.c (EV.var 0) rfl T.nP) AV.nil) (kvS_ks y) hl) rfl
end
end K2

namespace K2
open PySem L2 Evl Lg PyProof.Rows
/-! leaves_below -/
def bstep (y : Ar) (l : List Str) (a : Str) : List Str := if mem? l (parOf y a) then (if a ∈ l then l else l ++ [a]) else l
def belowL (y : Ar) (n : Str) : List Str := (y.map (·.1)).foldl (bstep y) [n]
def yes (l : List Str) : List (Str × Bool) := l.map fun s => (s, true)
theorem yes_keys (l : List Str) : (yes l).map (·.1) = l := by
  unfold yes
  rw [List.map_map]
  exact List.map_id' l
theorem yes_put (l : List Str) (a : Str) : kput (kvS (yes l)) (Sum.inr a) true = kvS (yes (if a ∈ l then l else l ++ [a])) := by
  by_cases h : a ∈ l
  · rw [if_pos h]
    unfold kput
    rw [if_pos (List.any_eq_true.mpr ⟨(Sum.inr a, true), by
      unfold kvS yes
      rw [List.map_map]
      exact List.mem_map.mpr ⟨a, h, rfl⟩, decide_eq_true rfl⟩)]
    unfold kvS yes
    simp only [List.map_map]
    refine List.map_congr_left fun s _ => ?_
    show (if (Sum.inr s : Key) = Sum.inr a then ((Sum.inr s : Key), true) else (Sum.inr s, true)) = (Sum.inr s, true)
    split <;> rfl
  · rw [if_neg h, kput_new _ _ _ (by rw [yes_keys]; exact h)]
    unfold yes
    rw [List.map_append]; rfl
theorem yes_ink (l : List Str) (o : Option Str) : ink (kvS (yes l)) o = mem? l o := by
  cases o with
  | none => rfl
  | some s =>
    show (kget (kvS (yes l)) (Sum.inr s)).isSome = decide (s ∈ l)
    rw [kget_some, yes_keys]
theorem bstep_len (y : Ar) (l : List Str) (a : Str) : (bstep y l a).length ≤ l.length + 1 := by
  unfold bstep
  split
  · split
    · omega
    · rw [List.length_append]; exact Nat.le_refl _
  · omega
theorem fold_len (y : Ar) : ∀ (as l : List Str), (as.foldl (bstep y) l).length ≤ l.length + as.length
  | [], l => Nat.le_refl _
  | a :: as, l => by
    have h1 := fold_len y as (bstep y l a)
    have h2 := bstep_len y l a
    rw [List.foldl_cons, List.length_cons]; omega
/-! level -/
def lev (y : Ar) : Nat → Option Str → Int
  | _, none => 0
  | 0, _ => 0
  | k + 1, some a => 1 + lev y k (parOf y a)
def levelOf (y : Ar) (n : Str) : Int := lev y y.length (parOf y n)
theorem seq_at : ∀ {y : Ar} {seen : List Str} {j : Nat} {a : Str} {q : Option Str}, seqB seen y = true → y[j]? = some (a, q) → fitsB (seen ++ (y.take j).map (·.1)) a q = true
  | [], _, _, _, _, _, h => by simp at h
  | (n, p) :: r, seen, 0, a, q, hs, h => by
    have h : some (n, p) = some (a, q) := h
    cases h
    have hs : (fitsB seen n p && seqB (seen ++ [n]) r) = true := hs
    rw [List.take_zero, List.map_nil, List.append_nil]
    exact (Bool.and_eq_true_iff.mp hs).1
  | (n, p) :: r, seen, j + 1, a, q, hs, h => by
    have hs : (fitsB seen n p && seqB (seen ++ [n]) r) = true := hs
    have := seq_at (Bool.and_eq_true_iff.mp hs).2 (show r[j]? = some (a, q) from h)
    rwa [List.append_assoc] at this
theorem tree_seq {y : Ar} (h : treeB y = true) : seqB [] y = true := (Bool.and_eq_true_iff.mp h).1
theorem fits_new {ns : List Str} {n : Str} {o : Option Str} (h : fitsB ns n o = true) : n ∉ ns ∧ (o = none ∨ ∃ p, o = some p ∧ p ∈ ns) := by
  unfold fitsB at h
  split at h
  · cases h
  · rename_i q
    refine ⟨fun z => q (by rw [decide_eq_true z, Bool.or_true]), ?_⟩
    split at h
    · left; exact Option.isNone_iff_eq_none.mp h
    · cases o with
      | none => exact .inl rfl
      | some p => exact .inr ⟨p, rfl, of_decide_eq_true h⟩
theorem tree_at {y : Ar} (h : treeB y = true) {j : Nat} {a : Str} {q : Option Str} (hj : y[j]? = some (a, q)) : parOf y a = q := by
  have hn := (fits_new (seq_at (tree_seq h) hj)).1
  rw [List.nil_append] at hn
  have hl : j < y.length := (List.getElem?_eq_some_iff.mp hj).1
  have e : y = y.take j ++ (a, q) :: y.drop (j + 1) := by
    conv => lhs; rw [← List.take_append_drop j y, List.drop_eq_getElem_cons hl, (List.getElem?_eq_some_iff.mp hj).2]
  unfold parOf
  have hf : (y.take j).find? (fun p => decide (p.1 = a)) = none := List.find?_eq_none.mpr fun p hp z => hn (List.mem_map.mpr ⟨p, hp, of_decide_eq_true z⟩)
  conv => lhs; rw [e]
  rw [List.find?_append, hf, List.find?_cons, decide_eq_true rfl]
  rfl
theorem tree_par {y : Ar} (h : treeB y = true) {j : Nat} {a b : Str} (hj : y[j]? = some (a, some b)) : ∃ i q, i < j ∧ y[i]? = some (b, q) := by
  rcases (fits_new (seq_at (tree_seq h) hj)).2 with z | ⟨p, e, hp⟩
  · cases z
  · cases e
    rw [List.nil_append] at hp
    obtain ⟨⟨b', q⟩, hm, rfl⟩ := List.mem_map.mp hp
    obtain ⟨i, hi⟩ := List.getElem?_of_mem hm
    have hi' : i < (y.take j).length := (List.getElem?_eq_some_iff.mp hi).1
    rw [List.length_take] at hi'
    refine ⟨i, q, by omega, ?_⟩
    rw [List.getElem?_take] at hi
    split at hi
    · exact hi
    · cases hi
def kidsAt (y : Ar) (i : Nat) : List (Str × List Str) := y.map fun p => (p.1, kids (y.take i) p.1)
def foAt (y : Ar) (i : Nat) : List (Str × Option Im) := if i = 0 then [("_parents", some (mk (rDK (rO rS)) (kvS y))), ("_children", none)] else [("_parents", some (mk (rDK (rO rS)) (kvS y))), ("_children", none), ("root", some (mk rS (rootOf y)))]
theorem kids_step {y : Ar} {i : Nat} {x : Str} {q : Option Str} (h : y[i]? = some (x, q)) (n : Str) : kids (y.take (i + 1)) n = if q = some n then kids (y.take i) n ++ [x] else kids (y.take i) n := by
  have e : y.take (i + 1) = y.take i ++ [(x, q)] := by rw [List.take_add_one, h]; rfl
  unfold kids
  rw [e, List.filter_append, List.map_append]
  by_cases z : q = some n
  · rw [if_pos z]
    simp [z]
  · rw [if_neg z]
    simp [z]
theorem kidsAt_none {y : Ar} {i : Nat} {x : Str} (h : y[i]? = some (x, none)) : kidsAt y (i + 1) = kidsAt y i := by
  unfold kidsAt
  refine List.map_congr_left fun p _ => ?_
  rw [kids_step h, if_neg fun z => nomatch z]
theorem kidsAt_some {y : Ar} {i : Nat} {x p : Str} (h : y[i]? = some (x, some p)) : ((kidsAt y i).map fun q => if q.1 = p then (q.1, q.2 ++ [x]) else q) = kidsAt y (i + 1) := by
  unfold kidsAt
  rw [List.map_map]
  refine List.map_congr_left fun r _ => ?_
  show (if r.1 = p then (r.1, kids (y.take i) r.1 ++ [x]) else (r.1, kids (y.take i) r.1)) = _
  rw [kids_step h]
  by_cases z : r.1 = p
  · rw [if_pos z, if_pos (by rw [z])]
  · rw [if_neg z, if_neg fun q => z (Option.some.inj q).symm]
theorem kidsAt_keys (y : Ar) (i : Nat) : (kidsAt y i).map (·.1) = y.map (·.1) := by
  unfold kidsAt
  rw [List.map_map]; rfl
theorem tree_nodup {y : Ar} (h : treeB y = true) : (y.map (·.1)).Nodup := by
  have key : ∀ (l : Ar) (seen : List Str), seqB seen l = true → (l.map (·.1)).Nodup ∧ ∀ n ∈ l.map (·.1), n ∉ seen := by
    intro l
    induction l with
    | nil => exact fun _ _ => ⟨List.nodup_nil, fun _ z => nomatch z⟩
    | cons p l ih =>
      intro seen hs
      have hs : (fitsB seen p.1 p.2 && seqB (seen ++ [p.1]) l) = true := hs
      obtain ⟨h1, h2⟩ := Bool.and_eq_true_iff.mp hs
      obtain ⟨k1, k2⟩ := ih _ h2
      have hp := (fits_new h1).1
      refine ⟨List.nodup_cons.mpr ⟨fun z => k2 _ z (List.mem_append_right _ (List.mem_singleton.mpr rfl)), k1⟩, fun n hn => ?_⟩
      rcases List.mem_cons.mp hn with z | z
      · rw [z]; exact hp
      · exact fun q => k2 n z (List.mem_append_left _ q)
  exact (key y [] (tree_seq h)).1
theorem tree_zero {y : Ar} (h : treeB y = true) {i : Nat} {x : Str} {q : Option Str} (hj : y[i]? = some (x, q)) : if i = 0 then q = none else ∃ p, q = some p ∧ p ∈ y.map (·.1) := by
  have hf := seq_at (tree_seq h) hj
  rw [List.nil_append] at hf
  have hi : i < y.length := (List.getElem?_eq_some_iff.mp hj).1
  split
  · rename_i z
    subst z
    unfold fitsB at hf
    split at hf
    · cases hf
    · rw [if_pos (by rfl)] at hf
      exact Option.isNone_iff_eq_none.mp hf
  · rename_i z
    unfold fitsB at hf
    split at hf
    · cases hf
    · rw [if_neg] at hf
      · cases q with
        | none => cases hf
        | some p =>
          have hp : p ∈ (y.take i).map (·.1) := of_decide_eq_true hf
          obtain ⟨r, hr, e⟩ := List.mem_map.mp hp
          exact ⟨p, rfl, List.mem_map.mpr ⟨r, List.mem_of_mem_take hr, e⟩⟩
      · intro e
        have := congrArg List.length e
        rw [List.length_map, List.length_take] at this
        have this : min i y.length = 0 := this
        omega
section
variable {P : Program} {w : World} {K : PySem.W.Frag} {mg : Str → Option Value} {base : Heap} {CP CU CT CB : Addr}
abbrev nTI : List Str := ["self", "areas", "name", "parent"]
theorem scTI : FnScope nTI ["self", "areas"] (defScope (sTree 0)) := ⟨rfl, rfl, rfl, by decide +kernel, rfl, by decide +kernel, by decide +kernel⟩
def spTI (CP CT : Addr) : Sp := spI CT (ι := Ar) (fun i => [mk (rL rArea) i]) AreasOk (rTree CT) (fun i => if treeB i then .ok i else .error CP)
theorem ok_treeInit {f : Addr} {fd : FuncData} (F : Fun K "__init__" "AreaTree.__init__" (sTree 0) f fd) (T : Tt K CT) (TK : Kn P w K mg base 3 "checked_parents" ["areas"] (spChecked CP)) : FnOk P w K mg base (L2N.CX P w) 4 f fd ["self", "areas"] (spTI CP CT) := by
  refine fn_init F scTI (fun _ => rfl) fun y B a cdv A' outer s H E hA hr hE => ?_
  have hA : AreasOk y := hA
  have hu := u1 hr
  have nd := scTI.nd
  have tk : L2N.Takes (cxOf (L2N.CX P w) P w K mg base nTI "AreaTree.__init__" (defScope (sTree 0)) f cdv A' outer s H E) (fun cls d _ H => E cls d H) := L2N.takes_of rfl rfl rfl rfl
  conv => arg 5; whnf
  show HT _ _ _ [some (ob CT a []), some (im (rL rArea) y), none, none] _
  by_cases hT : treeB y = true
  · have hres : (if treeB y then Rs.ok (im (rDK (rO rS)) (kvS y)) else Rs.err CP) = Rs.ok (im (rDK (rO rS)) (kvS y)) := if_pos hT
    have hl := hA.1
    refine HT.fld T.c 0 rfl (EV.call (i := y) TK hr tk (AV.cons (EV.var 1) AV.nil) hA hres) T.nP (by decide) ?_
    refine HT.fldDL (R := rS) (kvs := (y.map (·.1)).map fun n => (n, [])) T.c 0 rfl (EV.dcLists (j := 2) (IV.keys (EV.fldOb T.c 0 rfl rfl T.nP) (kvS_ks y)) nd (by show blkC nTI (defScope (sTree 0)) _ [("name", 2)] = true; decide +kernel) (by rw [List.length_map]; omega) (tree_nodup hT) (fun b' i x s H0 C cl fp hb hx => EV.var 2) (fun b' i x s H0 C cl fp hb hx => EV.lst (R := rS) (as := []) AV.nil rfl (by decide)) (fun _ _ _ _ _ => pg_name nd rfl (Or.inl rfl))) T.nC (by show 1 < 1000; decide) ?_
    have e0 : ((y.map (·.1)).map fun n => (n, ([] : List Str))) = kidsAt y 0 := by
      unfold kidsAt
      rw [List.map_map]; rfl
    rw [e0]
    refine HT.for (IV.keys (EV.fldO (fo := foAt y 0) T.c 0 rfl rfl T.nP) (kvS_ks y)) (fun i Γ => Γ = [some (obD CT a (foAt y i) rS (kidsAt y i)), some (im (rL rArea) y), none, none]) rfl ?_ ?_ (passes_of rfl)
    · rintro b' i yy Γ' hb hi ⟨x, hx, rfl⟩ rfl
      have hxk : x ∈ y.map (·.1) := List.mem_of_getElem? hx
      rw [List.getElem?_map] at hx
      obtain ⟨⟨x', q⟩, hy, e⟩ := Option.map_eq_some_iff.mp hx
      have e : x' = x := e
      subst e
      have hz := tree_zero hT hy
      have hpar : parOf y x' = q := tree_at hT hy
      have hil : i < y.length := (List.getElem?_eq_some_iff.mp hy).1
      have flook : (foAt y i).lookup ("_parents" : Str) = some (some (mk (rDK (rO rS)) (kvS y))) := by unfold foAt; split <;> rfl
      have clook : (foAt y i).lookup ("_children" : Str) = some none := by unfold foAt; split <;> rfl
      refine ⟨_, GV.name 2 nd, ?_⟩
      refine HT.set 3 (EV.getK (k := Sum.inr x') Dic.lk hu (EV.fldO T.c 0 rfl flook T.nP) (EV.var 2) (fun F v h => h) (par_get hxk)) ?_ nd
      rw [hpar]
      by_cases h0 : i = 0
      · subst h0
        rw [if_pos rfl] at hz
        subst hz
        refine HT.ite (TV.isNon (EV.var 3) fun F v x h => by rw [show v = V.str x from h]; exact fun z => nomatch z) (fun _ => ?_) (fun h => absurd h (by decide))
        refine HT.fldO T.c 0 rfl (EV.var 2) T.nR (by show 2 < 1000; decide) ?_
        rw [← kidsAt_none hy]
        have er : x' = rootOf y := by
          unfold rootOf
          cases y with
          | nil => cases hy
          | cons p r => cases hy; rfl
        rw [er]
        exact HT.nil (HT.done (by repeat (first | exact Le.nil | apply Le.keep | apply Le.drop)) rfl)
      · rw [if_neg h0] at hz
        obtain ⟨p, rfl, hp⟩ := hz
        refine HT.ite (TV.isNon (EV.var 3) fun F v x h => by rw [show v = V.str x from h]; exact fun z => nomatch z) (fun h => ?_) (fun _ => ?_)
        · cases h
        refine HT.appDL (p := p) (kd := some p) (T := rO rS) (z := x') T.c hu 0 rfl clook T.nC (EV.var 3) (fun F v h => h) (by rw [kidsAt_keys]; exact hp) (by rw [kidsAt_keys]; exact tree_nodup hT) (fun r hr => ?_) (EV.var 2) ?_
        · obtain ⟨r', _, rfl⟩ := List.mem_map.mp hr
          have h1 := kidLen (y.take i) r'.1
          have h2 : (y.take i).length ≤ y.length := by rw [List.length_take]; omega
          show (kids (y.take i) r'.1).length < 100000
          omega
        rw [kidsAt_some hy, show foAt y i = foAt y (i + 1) by unfold foAt; rw [if_neg h0, if_neg (Nat.succ_ne_zero i)]]
        exact HT.nil (HT.done (by repeat (first | exact Le.nil | apply Le.keep | apply Le.drop)) rfl)
    · rintro Γ' rfl
      have hne : y.length ≠ 0 := by
        intro z
        have : y = [] := List.length_eq_zero_iff.mp z
        rw [this] at hT
        exact absurd hT (by decide)
      rw [List.length_map]
      refine HT.lkO 0 rfl (HT.nil ⟨y, _, if_pos hT, rfl, ?_⟩)
      have : kidsAt y y.length = chil y := by
        unfold kidsAt chil
        rw [List.take_length]
      rw [this]
      unfold foAt
      rw [if_neg hne]
      rfl
  · have hres : (if treeB y then Rs.ok (im (rDK (rO rS)) (kvS y)) else Rs.err CP) = Rs.err CP := if_neg hT
    refine HT.fldNo 0 (EV.callR (i := y) TK hr tk (AV.cons (EV.var 1) AV.nil) hA (fun s' h => nomatch (hres.symm.trans h)) (fun C h => ?_))
    cases hres.symm.trans h
    exact fun σ F H' ⟨l', _, d⟩ => hE CP (if_neg hT) H' d.eb
end
end K2

namespace K2
open PySem L2 Evl Lg PyProof.Rows
abbrev sAF : Stmt := topS 16
abbrev sIG : Stmt := topS 17
abbrev sTF : Stmt := topS 18
abbrev sCD : Stmt := topS 19
abbrev sCA : Stmt := topS 20
abbrev sCT : Stmt := topS 21
abbrev At := List (Str × List Str)
abbrev Gp := List (List Str)
abbrev Dm := List (Str × Gp)
abbrev Tb := List (Str × Dm)
/-- further words of the top -/
structure Tw (mg : Str → Option Value) : Prop where
  set : mg "set" = none
  srt : mg "sorted" = none
  tup : mg "tuple" = none
  zip : mg "zip" = none
  enm : mg "enumerate" = none
def attrB (ns : List Str) (n : Str) (vs : List Str) : Bool :=
  if !nameB n || decide (n ∈ ns) then false else if decide ((vs.length : Int) < 2) || decide (((Sx.dd vs).length : Int) < (vs.length : Int)) then false else vs.all nameB
def groupB (vs : List Str) (g : Gp) : Bool := if !(g.all fun x => decide (0 < (x.length : Int))) then false else decide (g.flatten.Perm vs)
section
variable {P : Program} {w : World} {K : PySem.W.Frag} {mg : Str → Option Value} {base : Heap} {CP CU CT : Addr}
abbrev nAF : List Str := ["attributes", "name", "values", "value"]
theorem scAF : FnScope nAF ["attributes", "name", "values"] (defScope sAF) := ⟨rfl, rfl, rfl, by decide +kernel, rfl, by decide +kernel, by decide +kernel⟩
def spAF : Sp := spX (ι := At × Str × List Str) (fun i => [mk (rD (rLK rS)) (kvS i.1), mk rS i.2.1, mk (rL rS) i.2.2]) (fun i => i.2.1.length ≤ 1000 ∧ i.2.2.length ≤ 50 ∧ ∀ v ∈ i.2.2, v.length ≤ 1000) (fun i => .ok (im rB (attrB (i.1.map (·.1)) i.2.1 i.2.2)))
theorem ok_af {f : Addr} {fd : FuncData} (F : Fun K "attribute_fits" "attribute_fits" sAF f fd) (T : Tp K mg CP CU CT) (V : Tw mg) (T1 : Kn P w K mg base 1 "is_name" ["text"] spIsName) : FnOk P w K mg base (L2N.CX P w) 2 f fd ["attributes", "name", "values"] spAF := by
  refine fn_ok F scAF (fun _ => rfl) fun ⟨l, z, vs⟩ B cdv A' outer s H E ⟨hz, hl, hv⟩ hr _ => ?_
  have hz : z.length ≤ 1000 := hz
  have hl : vs.length ≤ 50 := hl
  have nd := scAF.nd
  have tk : L2N.Takes (cxOf (L2N.CX P w) P w K mg base nAF "attribute_fits" (defScope sAF) f cdv A' outer s H E) (fun cls d _ H => E cls d H) := L2N.takes_of rfl rfl rfl rfl
  have hu := u1 hr
  conv => arg 5; whnf
  show HT _ _ _ [some (im (rD (rLK rS)) (kvS l)), some (im rS z), some (im (rL rS) vs), none] _
  have hm : (kget (kvS l) (Sum.inr z)).isSome = decide (z ∈ l.map (·.1)) := kget_some l z
  refine HT.when (TV.or (TV.not (TV.val (EV.call (i := z) T1 (hr.mono (by decide)) tk (AV.cons (EV.var 1) AV.nil) hz rfl))) fun _ => TV.inK (k := Sum.inr z) Dic.pl hu (EV.var 1) (fun F v h => h) (EV.var 0)) (fun h => HT.ret EV.bl ?_) (fun h => ?_)
  · show Rs.ok _ = Rs.ok _
    rw [hm] at h
    unfold attrB
    rw [if_pos h]
  rw [hm] at h
  refine HT.when (TV.or (TV.lt (EV.lenL (AV.cons (EV.var 2) AV.nil) T.len) EV.int) fun _ => TV.lt (EV.lenSet Lis.pl (EV.var 2) (by omega) rfl T.len V.set) (EV.lenL (AV.cons (EV.var 2) AV.nil) T.len)) (fun h2 => HT.ret EV.bl ?_) (fun h2 => ?_)
  · show Rs.ok _ = Rs.ok _
    unfold attrB
    rw [h, if_neg (by decide), if_pos h2]
  · refine HT.ret (EV.all (AV.cons (EV.fz (LV.ev (LV.lcL0 (j := 3) (S := rB) nameB (IV.list (EV.var 2)) nd (by show blkC nAF (defScope sAF) _ [("value", 3)] = true; decide +kernel) (by omega) (fun b' i a s H0 C cl fp hb ha => ?_) (fun _ _ _ _ _ => pg_name nd rfl (Or.inl rfl))))) AV.nil) T.all) ?_
    · exact EV.call (i := a) (W := fun _ _ _ _ => False) T1 (hr.mono (by decide)) takesN0 (AV.cons (EV.var 3) AV.nil) (hv a (List.mem_of_getElem? ha)) rfl
    · show Rs.ok _ = Rs.ok _
      unfold attrB
      rw [h, if_neg (by decide), h2, if_neg (by decide), List.all_map]
      rfl
abbrev nIG : List Str := ["values", "grouping", "group", "value"]
theorem scIG : FnScope nIG ["values", "grouping"] (defScope sIG) := ⟨rfl, rfl, rfl, by decide +kernel, rfl, by decide +kernel, by decide +kernel⟩
def flat (g : Gp) : List Str := g.flatMap fun a => a.map fun c => c
theorem flat_eq (g : Gp) : flat g = g.flatten := by
  unfold flat
  induction g with
  | nil => rfl
  | cons a g ih => rw [List.flatMap_cons, ih, List.flatten_cons, List.map_id']
def StrsOk (l : List Str) : Prop := ∀ z ∈ l, PyData.strOk z = true
def GpOk (g : Gp) : Prop := g.length ≤ 50 ∧ g.flatten.length ≤ 50 ∧ StrsOk g.flatten ∧ ∀ z ∈ g.flatten, z.length ≤ 1000
def spIG : Sp := spX (ι := List Str × Gp) (fun i => [mk (rLK rS) i.1, mk (rL (rL rS)) i.2]) (fun i => i.1.length ≤ 50 ∧ StrsOk i.1 ∧ GpOk i.2) (fun i => .ok (im rB (groupB i.1 i.2)))
theorem ok_ig {f : Addr} {fd : FuncData} (F : Fun K "is_grouping" "is_grouping" sIG f fd) (T : Tp K mg CP CU CT) (V : Tw mg) : FnOk P w K mg base (L2N.CX P w) 1 f fd ["values", "grouping"] spIG := by
  refine fn_ok F scIG (fun _ => rfl) fun ⟨vs, g⟩ B cdv A' outer s H E ⟨hl, hv, hg⟩ hr _ => ?_
  have hl : vs.length ≤ 50 := hl
  have hg : GpOk g := hg
  obtain ⟨g1, g2, g3, g4⟩ := hg
  have nd := scIG.nd
  conv => arg 5; whnf
  show HT _ _ _ [some (im (rLK rS) vs), some (im (rL (rL rS)) g), none, none] _
  have hfl : (g.flatMap fun a => a.map fun c => c).length ≤ 50 := by rw [show (g.flatMap fun a => a.map fun c => c) = g.flatten from flat_eq g]; exact g2
  refine HT.when (TV.not (TV.val (EV.all (AV.cons (EV.fz (LV.ev (LV.lcL0 (j := 2) (S := rB) (fun x : List Str => decide (0 < (x.length : Int))) (IV.list (EV.var 1)) nd (by show blkC nIG (defScope sIG) _ [("group", 2)] = true; decide +kernel) (by omega) (fun b' i a s H0 C cl fp hb ha => EV.gt (EV.lenL (AV.cons (EV.var 2) AV.nil) T.len) EV.int) (fun _ _ _ _ _ => pg_name nd rfl (Or.inl rfl))))) AV.nil) T.all))) (fun h => HT.ret EV.bl ?_) (fun h => ?_)
  · show Rs.ok _ = Rs.ok _
    unfold groupB
    rw [List.all_map] at h
    rw [if_pos (show (!(g.all fun x => decide (0 < (x.length : Int)))) = true from h)]
  · refine HT.ret (EV.eqSorted (as := g.flatMap fun a => a.map fun c => c) (bs := vs) Lis.pl Lis.lk (EV.fz (LV.ev (LV.lc2 (own := [("group", 2), ("value", 3)]) (vs1 := [3]) (Tg.name (R := rL rS) 2 (by decide) fun _ _ _ _ _ => pg_name nd rfl (Or.inl rfl)) (Tg.name (R := rS) 3 (by decide) fun _ _ _ _ _ => pg_name nd rfl (Or.inl rfl)) (fun a : List Str => a) (fun _ c => c) (IV.list (EV.var 1)) nd (by show blkC nIG (defScope sIG) _ [("group", 2), ("value", 3)] = true; decide +kernel) (by decide) (by omega) (fun b' i a s H0 C cl fp hb ha => IV.list (EV.var 2)) (fun b' i a j c s H0 C cl fp hb ha hc => EV.var 3)))) (EV.var 0) (by omega) (by omega) (fun z hz => g3 z (by rw [← flat_eq]; exact hz)) hv hr.units V.srt) ?_
    show Rs.ok _ = Rs.ok _
    unfold groupB
    rw [List.all_map] at h
    rw [show (!(g.all fun x => decide (0 < (x.length : Int)))) = false from h, if_neg (by decide), show (g.flatMap fun a => a.map fun c => c) = g.flatten from flat_eq g]
end
end K2

namespace K2
open PySem L2 Evl Lg PyProof.Rows
def valsOf (ats : At) (a : Str) : List Str := ((ats.find? fun p => decide (p.1 = a)).map (·.2)).getD []
theorem vals_get {ats : At} {a : Str} (h : a ∈ ats.map (·.1)) : kget (kvS ats) (Sum.inr a) = some (valsOf ats a) := by
  have q := kget_some ats a
  rw [decide_eq_true h] at q
  rw [kget_kvS] at q ⊢
  unfold valsOf
  cases z : (ats.find? fun p => decide (p.1 = a)).map (·.2) with
  | none => rw [z] at q; cases q
  | some o => rfl
theorem vals_mem {ats : At} {a : Str} (h : a ∈ ats.map (·.1)) : (a, valsOf ats a) ∈ ats := by
  unfold valsOf
  cases z : ats.find? fun p => decide (p.1 = a) with
  | none =>
    obtain ⟨p, hp, rfl⟩ := List.mem_map.mp h
    have := List.find?_eq_none.mp z p hp
    simp at this
  | some p =>
    have h1 := List.mem_of_find?_eq_some z
    have h2 := List.find?_some z
    have h2 : p.1 = a := of_decide_eq_true h2
    show (a, p.2) ∈ ats
    rw [← h2]
    exact h1
def dimsOfT (t : Tb) (n : Str) : Dm := ((t.find? fun p => decide (p.1 = n)).map (·.2)).getD []
theorem dims_get : ∀ (tbs : Tb), (tbs.map (·.1)).Nodup → ∀ p ∈ tbs, dimsOfT tbs p.1 = p.2 := fun tbs htn p hp => by
  unfold dimsOfT
  have : tbs.find? (fun q => decide (q.1 = p.1)) = some p := by
    induction tbs with
    | nil => cases hp
    | cons q r ih =>
      rw [List.map_cons, List.nodup_cons] at htn
      rw [List.find?_cons]
      rcases List.mem_cons.mp hp with e | e
      · rw [e, decide_eq_true rfl]
      · rw [decide_eq_false fun z => htn.1 (List.mem_map.mpr ⟨p, e, z.symm⟩)]
        exact ih htn.2 e
  rw [this]; rfl
def usedT (t : Tb) : List Str := t.flatMap fun p => p.2.map (·.1)
def dimsB (ats : At) : List Str → Dm → Bool
  | _, [] => true
  | U, (a, g) :: r => if !decide (a ∈ ats.map (·.1)) || decide (a ∈ U) then false else if !groupB (valsOf ats a) g then false else dimsB ats (U ++ [a]) r
def prodC : Dm → Int
  | [] => 1
  | (_, g) :: r => (g.length : Int) * prodC r
def tableB (ats : At) (tbs : Tb) (n : Str) (d : Dm) : Bool := if !nameB n || decide (n ∈ tbs.map (·.1)) then false else dimsB ats (usedT tbs) d && decide (2 ≤ prodC d)
theorem dimsB_app (ats : At) (r : Dm) : ∀ (l : Dm) (U : List Str), dimsB ats U (l ++ r) = (dimsB ats U l && dimsB ats (U ++ l.map (·.1)) r)
  | [], U => by simp [dimsB]
  | (a, g) :: l, U => by
    show (if _ then _ else if _ then _ else dimsB ats (U ++ [a]) (l ++ r)) = ((if _ then _ else if _ then _ else dimsB ats (U ++ [a]) l) && _)
    rw [dimsB_app ats r l, List.map_cons, List.append_assoc]
    split
    · rfl
    · split
      · rfl
      · rfl
theorem prodC_app (r : Dm) : ∀ l : Dm, prodC (l ++ r) = prodC l * prodC r
  | [] => by simp [prodC]
  | (a, g) :: l => by
    show (g.length : Int) * prodC (l ++ r) = (g.length : Int) * prodC l * prodC r
    rw [prodC_app r l, Int.mul_assoc]
theorem prod_bd : ∀ (l : Dm), (∀ p ∈ l, p.2.length ≤ 50) → 0 ≤ prodC l ∧ prodC l ≤ 50 ^ l.length
  | [], _ => ⟨by decide, by decide⟩
  | (a, g) :: l, h => by
    obtain ⟨h1, h2⟩ := prod_bd l fun p hp => h p (List.mem_cons_of_mem _ hp)
    have hg : g.length ≤ 50 := h _ List.mem_cons_self
    have e : prodC ((a, g) :: l) = (g.length : Int) * prodC l := rfl
    rw [e, List.length_cons, Int.pow_succ]
    refine ⟨Int.mul_nonneg (by omega) h1, ?_⟩
    rw [Int.mul_comm]
    exact Int.mul_le_mul h2 (by omega) (by omega) (Int.le_trans h1 h2)
/-- the keys of a fold of one value -/
theorem kfold_keys {α : Type} (f : α → Str) (as : List α) (n : Str) : ∀ kvs : List (Key × Bool), (kget (as.foldl (fun kvs a => kput kvs (Sum.inr (f a)) true) kvs) (Sum.inr n)).isSome = ((kget kvs (Sum.inr n)).isSome || decide (n ∈ as.map f)) := by
  induction as with
  | nil => intro kvs; simp
  | cons a as ih =>
    intro kvs
    rw [List.foldl_cons, ih, kget_put, List.map_cons, Bool.or_assoc]
    congr 1
    rw [Bool.eq_iff_iff, Bool.or_eq_true, decide_eq_true_eq, decide_eq_true_eq, decide_eq_true_eq, List.mem_cons]
    constructor
    · rintro (h | h)
      · exact .inl (Sum.inr.inj h).symm
      · exact .inr h
    · rintro (h | h)
      · exact .inl (by rw [h])
      · exact .inr h
theorem used_keys (n : Str) : ∀ (tbs : Tb) (kvs : List (Key × Bool)), (kget (tbs.foldl (fun kvs p => p.2.foldl (fun kvs c => kput kvs (Sum.inr c.1) true) kvs) kvs) (Sum.inr n)).isSome = ((kget kvs (Sum.inr n)).isSome || decide (n ∈ usedT tbs))
  | [], kvs => by simp [usedT]
  | p :: tbs, kvs => by
    rw [List.foldl_cons, used_keys n tbs, kfold_keys (fun c : Str × Gp => c.1), Bool.or_assoc]
    congr 1
    unfold usedT
    rw [List.flatMap_cons, Bool.eq_iff_iff, Bool.or_eq_true, decide_eq_true_eq, decide_eq_true_eq, decide_eq_true_eq, List.mem_append]
section
variable {P : Program} {w : World} {K : PySem.W.Frag} {mg : Str → Option Value} {base : Heap} {CP CU CT : Addr}
abbrev nTF : List Str := ["attributes", "tables", "name", "dimensions", "attribute", "grouping", "used", "classes", "table"]
theorem scTF : FnScope nTF ["attributes", "tables", "name", "dimensions"] (defScope sTF) := ⟨rfl, rfl, rfl, by decide +kernel, rfl, by decide +kernel, by decide +kernel⟩
abbrev rDmL : Rl Dm := rLK (rP rS (rLK (rLK rS)))
abbrev rDmP : Rl Dm := rL (rP rS (rL (rL rS)))
def AtOk (l : At) : Prop := l.length ≤ 50 ∧ ∀ p ∈ l, p.1.length ≤ 1000 ∧ p.2.length ≤ 50 ∧ StrsOk p.2 ∧ ∀ v ∈ p.2, v.length ≤ 1000
def DmOk (d : Dm) : Prop := d.length ≤ 10 ∧ ∀ p ∈ d, p.1.length ≤ 1000 ∧ GpOk p.2
def TbOk (t : Tb) : Prop := t.length ≤ 50 ∧ ∀ p ∈ t, p.1.length ≤ 1000 ∧ DmOk p.2
def spTF : Sp := spX (ι := At × Tb × Str × Dm) (fun i => [mk (rDK (rLK rS)) (kvS i.1), mk (rDK rDmL) (kvS i.2.1), mk rS i.2.2.1, mk rDmP i.2.2.2]) (fun i => AtOk i.1 ∧ TbOk i.2.1 ∧ (i.2.1.map (·.1)).Nodup ∧ i.2.2.1.length ≤ 1000 ∧ DmOk i.2.2.2) (fun i => .ok (im rB (tableB i.1 i.2.1 i.2.2.1 i.2.2.2)))
theorem ok_tf {f : Addr} {fd : FuncData} (F : Fun K "table_fits" "table_fits" sTF f fd) (T : Tp K mg CP CU CT) (T1 : Kn P w K mg base 1 "is_name" ["text"] spIsName) (T2 : Kn P w K mg base 1 "is_grouping" ["values", "grouping"] spIG) : FnOk P w K mg base (L2N.CX P w) 2 f fd ["attributes", "tables", "name", "dimensions"] spTF := by
  refine fn_ok F scTF (fun _ => rfl) fun ⟨ats, tbs, z, d⟩ B cdv A' outer s H E ⟨ha, ht, htn, hz, hd⟩ hr _ => ?_
  have ha : AtOk ats := ha
  have ht : TbOk tbs := ht
  have hd : DmOk d := hd
  have htn : (tbs.map (·.1)).Nodup := htn
  have hz : z.length ≤ 1000 := hz
  have nd := scTF.nd
  have tk : L2N.Takes (cxOf (L2N.CX P w) P w K mg base nTF "table_fits" (defScope sTF) f cdv A' outer s H E) (fun cls d _ H => E cls d H) := L2N.takes_of rfl rfl rfl rfl
  have hu := u1 hr
  conv => arg 5; whnf
  show HT _ _ _ [some (im (rDK (rLK rS)) (kvS ats)), some (im (rDK rDmL) (kvS tbs)), some (im rS z), some (im rDmP d), none, none, none, none, none] _
  have hm : (kget (kvS tbs) (Sum.inr z)).isSome = decide (z ∈ tbs.map (·.1)) := kget_some tbs z
  refine HT.when (TV.or (TV.not (TV.val (EV.call (i := z) T1 (hr.mono (by decide)) tk (AV.cons (EV.var 2) AV.nil) hz rfl))) fun _ => TV.inK (k := Sum.inr z) Dic.lk hu (EV.var 2) (fun F v h => h) (EV.var 1)) (fun h => HT.ret EV.bl ?_) (fun h => ?_)
  · show Rs.ok _ = Rs.ok _
    rw [hm] at h
    unfold tableB
    rw [if_pos h]
  rw [hm] at h
  have hput : ∀ (kvs : List (Key × Bool)) (k : Key), (kput kvs k true).length ≤ kvs.length + 1 := fun kvs k => by unfold kput; split <;> simp
  have fl1 : ∀ (cs : Dm) (kvs : List (Key × Bool)), (cs.foldl (fun kvs c => kput kvs (Sum.inr c.1) true) kvs).length ≤ kvs.length + cs.length := by
    intro cs
    induction cs with
    | nil => exact fun _ => Nat.le_refl _
    | cons c cs ih =>
      intro kvs
      refine Nat.le_trans (ih _) ?_
      have := hput kvs (Sum.inr c.1)
      rw [List.length_cons]
      show (kput kvs (Sum.inr c.1) true).length + _ ≤ _
      omega
  have fl2 : ∀ (ts : Tb) (kvs : List (Key × Bool)), (∀ p ∈ ts, p.2.length ≤ 10) → (ts.foldl (fun kvs p => p.2.foldl (fun kvs c => kput kvs (Sum.inr c.1) true) kvs) kvs).length ≤ kvs.length + 10 * ts.length := by
    intro ts
    induction ts with
    | nil => exact fun _ _ => Nat.le_refl _
    | cons p ts ih =>
      intro kvs hp
      refine Nat.le_trans (ih _ fun q hq => hp q (List.mem_cons_of_mem _ hq)) ?_
      have h1 := fl1 p.2 kvs
      have h2 := hp p List.mem_cons_self
      rw [List.length_cons]
      show (p.2.foldl (fun kvs c => kput kvs (Sum.inr c.1) true) kvs).length + _ ≤ _
      omega
  have hget : ∀ p ∈ tbs, dimsOfT tbs p.1 = p.2 := fun p hp => dims_get tbs htn p hp
  have hfold : (tbs.map (·.1)).foldl (fun kvs n => (dimsOfT tbs n).foldl (fun kvs c => kput kvs (Sum.inr c.1) true) kvs) [] = tbs.foldl (fun (kvs : List (Key × Bool)) p => p.2.foldl (fun kvs c => kput kvs (Sum.inr c.1) true) kvs) [] := by
    rw [List.foldl_map]
    have : ∀ (ts : Tb) (kvs : List (Key × Bool)), (∀ p ∈ ts, dimsOfT tbs p.1 = p.2) → ts.foldl (fun kvs p => (dimsOfT tbs p.1).foldl (fun kvs c => kput kvs (Sum.inr c.1) true) kvs) kvs = ts.foldl (fun kvs p => p.2.foldl (fun kvs c => kput kvs (Sum.inr c.1) true) kvs) kvs := by
      intro ts
      induction ts with
      | nil => exact fun _ _ => rfl
      | cons p ts ih =>
        intro kvs hp
        rw [List.foldl_cons, List.foldl_cons, hp p List.mem_cons_self]
        exact ih _ fun q hq => hp q (List.mem_cons_of_mem _ hq)
    exact this tbs [] hget
  have nget : ∀ {n : Str} {i : Nat}, (tbs.map (·.1))[i]? = some n → ∃ p ∈ tbs, p.1 = n := fun {n i} h => by
    have := List.mem_of_getElem? h
    obtain ⟨p, hp, e⟩ := List.mem_map.mp this
    exact ⟨p, hp, e⟩
  have kg : ∀ {n : Str} {i : Nat}, (tbs.map (·.1))[i]? = some n → kget (kvS tbs) (Sum.inr n) = some (dimsOfT tbs n) := fun {n i} h => by
    obtain ⟨p, hp, e⟩ := nget h
    have q := kget_some tbs n
    rw [decide_eq_true (List.mem_map.mpr ⟨p, hp, e⟩)] at q
    rw [kget_kvS] at q ⊢
    unfold dimsOfT
    cases z : (tbs.find? fun p => decide (p.1 = n)).map (·.2) with
    | none => rw [z] at q; cases q
    | some o => rfl
  have hd10 : ∀ {n : Str} {i : Nat}, (tbs.map (·.1))[i]? = some n → (dimsOfT tbs n).length ≤ 10 := fun {n i} h => by
    obtain ⟨p, hp, e⟩ := nget h
    rw [← e, hget p hp]
    exact (ht.2 p hp).2.1
  have hfm : ((tbs.map (·.1)).flatMap (dimsOfT tbs)).length ≤ 50000 := by
    have : ∀ ns : List Str, (∀ n ∈ ns, (dimsOfT tbs n).length ≤ 10) → (ns.flatMap (dimsOfT tbs)).length ≤ 10 * ns.length := by
      intro ns
      induction ns with
      | nil => exact fun _ => Nat.le_refl _
      | cons n ns ih =>
        intro hn
        rw [List.flatMap_cons, List.length_append, List.length_cons]
        have h1 := ih fun q hq => hn q (List.mem_cons_of_mem _ hq)
        have h2 := hn n List.mem_cons_self
        omega
    have h1 := this (tbs.map (·.1)) fun n hn => by
      obtain ⟨p, hp, e⟩ := List.mem_map.mp hn
      rw [← e, hget p hp]
      exact (ht.2 p hp).2.1
    have h2 := ht.1
    rw [List.length_map] at h1
    omega
  refine HT.setC 6 (LV.dc2 (own := [("table", 8), ("attribute", 4), ("grouping", 5)]) (vs1 := [4, 5]) (U := rB) (Tg.name (R := rS) 8 (by decide) fun _ _ _ _ _ => pg_name nd rfl (Or.inl rfl)) (Tg.pair (R := rS) (S := rLK (rLK rS)) 4 5 (by decide) (by decide) fun _ _ _ _ _ => pg_tup rfl (pgs_cons (pg_name nd rfl (Or.inl rfl)) (pgs_cons (pg_name nd rfl (Or.inl rfl)) pgs_nil))) (dimsOfT tbs) (fun _ c => Sum.inr c.1) (fun _ _ => true) (IV.keys (EV.var 1) (kvS_ks tbs)) nd (by show blkC nTF (defScope sTF) _ [("table", 8), ("attribute", 4), ("grouping", 5)] = true; decide +kernel) (by decide) hfm
    (fun b' i n s H0 C cl fp hb hn => IV.lst Lis.lk (EV.getK (k := Sum.inr n) Dic.lk hu (EV.var 1) (EV.var 8) (fun F v h => h) (kg hn)))
    (fun b' i n j c hb hn hc => ⟨_, rS, c.1, fun s H0 C cl fp => EV.var 4, fun F v h => h⟩) (fun b' i n j c s H0 C cl fp hb hn hc => EV.bl)) ?_ (sw_dict rfl rfl rfl rfl)
  rw [hfold]
  refine HT.set 7 EV.int ?_ nd
  have k0 := used_keys
  refine HT.for (IV.list (EV.var 3)) (fun k Γ => ∃ kvs : List (Key × Bool), Γ = [some (im (rDK (rLK rS)) (kvS ats)), some (im (rDK rDmL) (kvS tbs)), some (im rS z), some (im rDmP d), none, none, some (owD rB kvs), some (im rI (prodC (d.take k))), none] ∧ (∀ n, (kget kvs (Sum.inr n)).isSome = decide (n ∈ usedT tbs ++ (d.take k).map (·.1))) ∧ kvs.length ≤ 1000 + k ∧ dimsB ats (usedT tbs) (d.take k) = true) ⟨_, rfl, fun n => ?_, ?_, rfl⟩ ?_ ?_ (passes_of rfl)
  · rw [used_keys n tbs []]
    simp [kget]
  · have := fl2 tbs [] fun p hp => (ht.2 p hp).2.1
    have h2 := ht.1
    simp only [List.length_nil] at this
    omega
  · rintro b' i y Γ' hb hi ⟨⟨a, g⟩, hx, rfl⟩ ⟨kvs, rfl, hkv, hlen, hdb⟩
    have hmem := List.mem_of_getElem? hx
    obtain ⟨ha1, hg1⟩ := hd.2 _ hmem
    have ha1 : a.length ≤ 1000 := ha1
    have hg1 : GpOk g := hg1
    have ht1 : d.take (i + 1) = d.take i ++ [(a, g)] := by rw [List.take_add_one, hx]; rfl
    have bad : dimsB ats (usedT tbs ++ (d.take i).map (·.1)) [(a, g)] = false → tableB ats tbs z d = false := fun hf => by
      unfold tableB
      rw [h, if_neg (by decide)]
      have : dimsB ats (usedT tbs) d = false := by
        conv => lhs; rw [← List.take_append_drop (i + 1) d, ht1, dimsB_app, dimsB_app, hdb, hf]
        rfl
      rw [this]; rfl
    have hak : (kget (kvS ats) (Sum.inr a)).isSome = decide (a ∈ ats.map (·.1)) := kget_some ats a
    refine ⟨_, GV.pair (R := rS) (S := rL (rL rS)) (c := (a, g)) (GsV.cons (GV.name 4 nd) (GsV.cons (GV.name 5 nd) GsV.nil)), ?_⟩
    refine HT.when (TV.or (TV.ninK (k := Sum.inr a) Dic.lk hu (EV.var 4) (fun F v h => h) (EV.var 0)) fun _ => TV.lendD 6 rfl (TV.inK (k := Sum.inr a) Dic.pl hu (EV.var 4) (fun F v h => h) (EV.var 6))) (fun h1 => HT.ret EV.bl ?_) (fun h1 => ?_)
    · show Rs.ok _ = Rs.ok _
      rw [hak, hkv] at h1
      rw [bad]
      show (if _ then false else _) = false
      rw [if_pos h1]
    rw [hak, hkv] at h1
    have hin : a ∈ ats.map (·.1) := by
      rw [Bool.or_eq_false_iff] at h1
      simpa using h1.1
    obtain ⟨_, v1, v2, v3⟩ := ha.2 _ (vals_mem hin)
    refine HT.when (TV.not (TV.val (EV.call (i := (valsOf ats a, g)) T2 (hr.mono (by decide)) tk (AV.cons (EV.getK (k := Sum.inr a) Dic.lk hu (EV.var 0) (EV.var 4) (fun F v h => h) (vals_get hin)) (AV.cons (EV.var 5) AV.nil)) ⟨v1, v2, hg1⟩ rfl))) (fun h2 => HT.ret EV.bl ?_) (fun h2 => ?_)
    · show Rs.ok _ = Rs.ok _
      rw [bad]
      show (if _ then false else if _ then false else _) = false
      rw [h1, if_neg (by decide), if_pos h2]
    refine HT.putK (k := Sum.inr a) 6 rfl hu EV.bl (EV.var 4) (fun F v h => h) (by have := hd.1; omega) ?_
    have hpb := prod_bd (d.take i) fun p hp => (hd.2 p (List.mem_of_mem_take hp)).2.1
    have e1 : prodC (d.take i) * (g.length : Int) = prodC (d.take (i + 1)) := by
      rw [ht1, prodC_app]
      show _ = prodC (d.take i) * ((g.length : Int) * 1)
      rw [Int.mul_one]
    refine HT.augM 7 rfl (EV.lenL (AV.cons (EV.var 5) AV.nil) T.len) (.inr ?_) ?_ nd
    · have := hg1.1
      show -(2 ^ 64) < (g.length : Int) ∧ (g.length : Int) < 2 ^ 64
      omega
    · rw [show prodC (d.take i) * ((a, g).2.length : Int) = prodC (d.take (i + 1)) from e1]
      refine HT.done (by repeat (first | exact Le.nil | apply Le.keep | apply Le.drop)) ⟨kput kvs (Sum.inr a) true, rfl, fun n => ?_, ?_, ?_⟩
      · rw [kget_put, hkv, ht1, List.map_append, ← List.append_assoc, Bool.eq_iff_iff, Bool.or_eq_true, decide_eq_true_eq, decide_eq_true_eq, decide_eq_true_eq]
        constructor
        · rintro (q | q)
          · exact List.mem_append_left _ q
          · exact List.mem_append_right _ (by rw [← Sum.inr.inj q]; exact List.mem_singleton.mpr rfl)
        · intro q
          rcases List.mem_append.mp q with q | q
          · exact .inl q
          · exact .inr (by rw [List.mem_singleton.mp q])
      · have := hput kvs (Sum.inr a)
        omega
      · rw [ht1, dimsB_app, hdb]
        show (true && (if _ then false else if _ then false else true)) = true
        rw [h1, if_neg (by decide), h2, if_neg (by decide)]; rfl
  · rintro Γ' ⟨kvs, rfl, hkv, hlen, hdb⟩
    rw [List.take_length] at hdb ⊢
    refine HT.ret (EV.ge (EV.var 7) EV.int) ?_
    show Rs.ok _ = Rs.ok _
    unfold tableB
    rw [h, if_neg (by decide), hdb]; rfl
end
end K2

namespace K2
open PySem L2 Evl Lg PyProof.Rows
def aseqB : List Str → At → Bool
  | _, [] => true
  | U, (n, vs) :: r => attrB U n vs && aseqB (U ++ [n]) r
theorem aseqB_app (r : At) : ∀ (l : At) (U : List Str), aseqB U (l ++ r) = (aseqB U l && aseqB (U ++ l.map (·.1)) r)
  | [], U => by simp [aseqB]
  | (n, p) :: l, U => by
    show (attrB U n p && aseqB (U ++ [n]) (l ++ r)) = (attrB U n p && aseqB (U ++ [n]) l && aseqB (U ++ n :: l.map (·.1)) r)
    rw [aseqB_app r l, Bool.and_assoc, List.append_assoc]; rfl
def attrsB (l : At) : Bool := aseqB [] l && !l.isEmpty
def tseqB (ats : At) : Tb → Tb → Bool
  | _, [] => true
  | U, (n, d) :: r => tableB ats U n d && tseqB ats (U ++ [(n, d)]) r
theorem tseqB_app (ats : At) (r : Tb) : ∀ (l U : Tb), tseqB ats U (l ++ r) = (tseqB ats U l && tseqB ats (U ++ l) r)
  | [], U => by simp [tseqB]
  | (n, p) :: l, U => by
    show (tableB ats U n p && tseqB ats (U ++ [(n, p)]) (l ++ r)) = (tableB ats U n p && tseqB ats (U ++ [(n, p)]) l && tseqB ats (U ++ (n, p) :: l) r)
    rw [tseqB_app ats r l, Bool.and_assoc, List.append_assoc]; rfl
def tablesB (ats : At) (l : Tb) : Bool := tseqB ats [] l && !l.isEmpty
section
variable {P : Program} {w : World} {K : PySem.W.Frag} {mg : Str → Option Value} {base : Heap} {CP CU CT : Addr}
abbrev nCD : List Str := ["dimensions", "attribute", "grouping", "group"]
theorem scCD : FnScope nCD ["dimensions"] (defScope sCD) := ⟨rfl, rfl, rfl, by decide +kernel, rfl, by decide +kernel, by decide +kernel⟩
def spCD (D : Rl Dm) : Sp := spX (ι := Dm) (fun i => [mk D i]) DmOk (fun i => .ok (owP rS (rLK rS) i))
theorem ok_cd {D : Rl Dm} {G : Rl Gp} {g0 : Rl (List Str)} (hD : Lis D (rP rS G)) (hG : Lis G g0) (hg : Lis g0 rS) {f : Addr} {fd : FuncData} (F : Fun K "copied_dimensions" "copied_dimensions" sCD f fd) (T : Tp K mg CP CU CT) : FnOk P w K mg base (L2N.CX P w) 1 f fd ["dimensions"] (spCD D) := by
  refine fn_ok F scCD (fun _ => rfl) fun d B cdv A' outer s H E hd hr _ => ?_
  have hd : DmOk d := hd
  have hl := hd.1
  have nd := scCD.nd
  conv => arg 5; whnf
  show HT _ _ _ [some (im D d), none, none, none] _
  refine HT.ret (s := owP rS (rLK rS) (d.map fun p => p)) (LV.ev (EV.lcO (own := [("attribute", 1), ("grouping", 2)]) (Tg.pair (R := rS) (S := G) 1 2 (by decide) (by decide) fun _ _ _ _ _ => pg_tup rfl (pgs_cons (pg_name nd rfl (Or.inl rfl)) (pgs_cons (pg_name nd rfl (Or.inl rfl)) pgs_nil))) (fun p => p) (IV.lst hD (EV.var 0)) nd (by show blkC nCD (defScope sCD) _ [("attribute", 1), ("grouping", 2)] = true; decide +kernel) (by omega) (fun b' i p s H0 C cl fp hb hp => EV.oprMk (EV.var 1) ?_))) (by rw [List.map_id'])
  have hp2 := (hd.2 p (List.mem_of_getElem? hp)).2.1
  refine EV.castO (as := p.2.map fun x => x) ?_ (List.map_id' _)
  exact LV.ev (LV.lcL0 (j := 3) (S := rLK rS) (fun x : List Str => x) (IV.lst hG (EV.var 2)) nd (by show blkC nCD ({ kind := .function, names := [(".0", .local), ("attribute", .local), ("grouping", .local)], isGenerator := false, isCoroutine := false } : Scope) _ [("group", 3)] = true; decide +kernel) (by omega) (fun b' i a s H0 C cl fp hb ha => EV.lkL (EV.listLK hg (AV.cons (EV.var 3) AV.nil) T.lst)) (fun _ _ _ _ _ => pg_name nd rfl (Or.inl rfl)))
abbrev nCA : List Str := ["attributes", "checked", "name", "values"]
theorem scCA : FnScope nCA ["attributes"] (defScope sCA) := ⟨rfl, rfl, rfl, by decide +kernel, rfl, by decide +kernel, by decide +kernel⟩
def spCA (CP : Addr) : Sp := spX (ι := At) (fun i => [mk (rL (rP rS (rL rS))) i]) AtOk (fun i => if attrsB i then .ok (im (rDK (rLK rS)) (kvS i)) else .err CP)
theorem ok_ca {f : Addr} {fd : FuncData} (F : Fun K "checked_attributes" "checked_attributes" sCA f fd) (T : Tp K mg CP CU CT) (T1 : Kn P w K mg base 2 "attribute_fits" ["attributes", "name", "values"] spAF) : FnOk P w K mg base (L2N.CX P w) 3 f fd ["attributes"] (spCA CP) := by
  refine fn_ok F scCA (fun _ => rfl) fun l B cdv A' outer s H E hA hr hE => ?_
  have hA : AtOk l := hA
  obtain ⟨hl, hn⟩ := hA
  have tk : L2N.Takes (cxOf (L2N.CX P w) P w K mg base nCA "checked_attributes" (defScope sCA) f cdv A' outer s H E) (fun cls d _ H => E cls d H) := L2N.takes_of rfl rfl rfl rfl
  have hu := u1 hr
  have nd := scCA.nd
  conv => arg 5; whnf
  show HT _ _ _ [some (im (rL (rP rS (rL rS))) l), none, none, none] _
  have bad : attrsB l = false → ∀ C', Rs.err CP = Rs.err C' → (if attrsB l then Rs.ok (im (rDK (rLK rS)) (kvS l)) else Rs.err CP) = Rs.err C' := fun h C' e => by rw [h]; exact e
  refine HT.set 1 (EV.dict0 (S := rLK rS)) ?_ nd
  refine HT.for (IV.list (EV.var 0)) (fun k Γ => Γ = [some (im (rL (rP rS (rL rS))) l), some (owD (rLK rS) (kvS (l.take k))), none, none] ∧ aseqB [] (l.take k) = true) ⟨rfl, rfl⟩ ?_ ?_ (passes_of rfl)
  · rintro b' i y Γ' hb hi ⟨⟨z, vs⟩, hx, rfl⟩ ⟨rfl, hseq⟩
    obtain ⟨hz, v1, v2, v3⟩ := hn _ (List.mem_of_getElem? hx)
    have hz : z.length ≤ 1000 := hz
    have ht1 : l.take (i + 1) = l.take i ++ [(z, vs)] := by rw [List.take_add_one, hx]; rfl
    refine ⟨_, GV.pair (R := rS) (S := rL rS) (c := (z, vs)) (GsV.cons (GV.name 2 nd) (GsV.cons (GV.name 3 nd) GsV.nil)), ?_⟩
    refine HT.when (TV.not (TV.val (EV.lendD 1 rfl NoL.bool (EV.call (i := (l.take i, z, vs)) T1 (hr.mono (by decide)) tk (AV.cons (EV.var 1) (AV.cons (EV.var 2) (AV.cons (EV.var 3) AV.nil))) ⟨hz, v1, v3⟩ rfl)))) (fun h => ?_) (fun h => ?_)
    · refine HT.raise T.ep tk (EV.fstr (JV.str (JV.txt (EV.var 2) (Nat.le_trans hz (by decide)) (JV.str JV.nil))) (fb _ _ (by decide) (by decide) hz)) fun σ F H' ⟨l', _, d⟩ => hE CP (bad ?_ _ rfl) H' (hb ▸ d.eb)
      unfold attrsB
      have hf : attrB ((l.take i).map (·.1)) z vs = false := by simpa using h
      have : aseqB [] l = false := by
        conv => lhs; rw [← List.take_append_drop (i + 1) l, ht1, aseqB_app, aseqB_app, hseq]
        show (true && (attrB ([] ++ (l.take i).map (·.1)) z vs && true) && _) = false
        rw [List.nil_append, hf]; rfl
      rw [this]; rfl
    · have hf : attrB ((l.take i).map (·.1)) z vs = true := by simpa using h
      have hnew : z ∉ (l.take i).map (·.1) := by
        intro q
        unfold attrB at hf
        rw [if_pos (by rw [decide_eq_true q, Bool.or_true])] at hf
        cases hf
      refine HT.putK (k := Sum.inr z) 1 rfl hu (EV.lkL (EV.listLK Lis.pl (AV.cons (EV.var 3) AV.nil) T.lst)) (EV.var 2) (fun F v h => h) (by show (kvS (l.take i)).length < 100000; unfold kvS; rw [List.length_map, List.length_take]; omega) ?_
      rw [kput_new _ _ _ hnew, ← ht1]
      refine HT.done (by repeat (first | exact Le.nil | apply Le.keep | apply Le.drop)) ⟨rfl, ?_⟩
      rw [ht1, aseqB_app, hseq]
      show (true && (attrB ([] ++ (l.take i).map (·.1)) z vs && true)) = true
      rw [List.nil_append, hf]; rfl
  · rintro Γ' ⟨rfl, hseq⟩
    rw [List.take_length] at hseq ⊢
    refine HT.when (TV.lendD 1 rfl (TV.not (TV.truK Dic.pl (EV.var 1)))) (fun h => ?_) (fun h => ?_)
    · refine HT.raise T.ep tk (EV.strAny EV.str) fun σ F H' ⟨l', _, d⟩ => hE CP (bad ?_ _ rfl) H' d.eb
      unfold attrsB
      cases l with
      | nil => rfl
      | cons a r =>
        have h : (!!false) = true := h
        exact absurd h (by decide)
    · refine HT.lkD 1 rfl ?_
      refine HT.ret (EV.var 1) ?_
      show _ = Rs.ok _
      have : attrsB l = true := by
        unfold attrsB
        rw [hseq]
        cases l with
        | nil => exact absurd h (by decide)
        | cons a r => rfl
      show (if attrsB l then _ else _) = _
      rw [if_pos this]
abbrev nCT : List Str := ["attributes", "tables", "checked", "name", "dimensions"]
theorem scCT : FnScope nCT ["attributes", "tables"] (defScope sCT) := ⟨rfl, rfl, rfl, by decide +kernel, rfl, by decide +kernel, by decide +kernel⟩
def spCT (CP : Addr) : Sp := spX (ι := At × Tb) (fun i => [mk (rDK (rLK rS)) (kvS i.1), mk (rL (rP rS rDmP)) i.2]) (fun i => AtOk i.1 ∧ TbOk i.2) (fun i => if tablesB i.1 i.2 then .ok (im (rDK rDmL) (kvS i.2)) else .err CP)
theorem tseq_nodup (ats : At) : ∀ (l U : Tb), (U.map (·.1)).Nodup → tseqB ats U l = true → ((U ++ l).map (·.1)).Nodup
  | [], U, h, _ => by rw [List.append_nil]; exact h
  | (n, d) :: l, U, h, k => by
    have k : (tableB ats U n d && tseqB ats (U ++ [(n, d)]) l) = true := k
    rw [Bool.and_eq_true] at k
    have hn : n ∉ U.map (·.1) := by
      intro q
      have k1 := k.1
      unfold tableB at k1
      rw [if_pos (by rw [decide_eq_true q, Bool.or_true])] at k1
      cases k1
    have := tseq_nodup ats l (U ++ [(n, d)]) (by
      rw [List.map_append, List.nodup_append]
      exact ⟨h, by simp, fun a ha b hb e => hn (by rw [List.mem_singleton.mp hb] at e; rw [← show a = n from e]; exact ha)⟩) k.2
    rwa [List.append_assoc] at this
theorem ok_ct {f : Addr} {fd : FuncData} (F : Fun K "checked_tables" "checked_tables" sCT f fd) (T : Tp K mg CP CU CT) (T1 : Kn P w K mg base 2 "table_fits" ["attributes", "tables", "name", "dimensions"] spTF) (T2 : Kn P w K mg base 1 "copied_dimensions" ["dimensions"] (spCD rDmP)) : FnOk P w K mg base (L2N.CX P w) 3 f fd ["attributes", "tables"] (spCT CP) := by
  refine fn_ok F scCT (fun _ => rfl) fun ⟨ats, l⟩ B cdv A' outer s H E ⟨hA, hT⟩ hr hE => ?_
  have hA : AtOk ats := hA
  have hT : TbOk l := hT
  obtain ⟨hl, hn⟩ := hT
  have tk : L2N.Takes (cxOf (L2N.CX P w) P w K mg base nCT "checked_tables" (defScope sCT) f cdv A' outer s H E) (fun cls d _ H => E cls d H) := L2N.takes_of rfl rfl rfl rfl
  have hu := u1 hr
  have nd := scCT.nd
  conv => arg 5; whnf
  show HT _ _ _ [some (im (rDK (rLK rS)) (kvS ats)), some (im (rL (rP rS rDmP)) l), none, none, none] _
  have bad : tablesB ats l = false → ∀ C', Rs.err CP = Rs.err C' → (if tablesB ats l then Rs.ok (im (rDK rDmL) (kvS l)) else Rs.err CP) = Rs.err C' := fun h C' e => by rw [h]; exact e
  refine HT.set 2 (EV.dict0 (S := rDmL)) ?_ nd
  refine HT.for (IV.list (EV.var 1)) (fun k Γ => Γ = [some (im (rDK (rLK rS)) (kvS ats)), some (im (rL (rP rS rDmP)) l), some (owD rDmL (kvS (l.take k))), none, none] ∧ tseqB ats [] (l.take k) = true) ⟨rfl, rfl⟩ ?_ ?_ (passes_of rfl)
  · rintro b' i y Γ' hb hi ⟨⟨z, d⟩, hx, rfl⟩ ⟨rfl, hseq⟩
    obtain ⟨hz, hd⟩ := hn _ (List.mem_of_getElem? hx)
    have hz : z.length ≤ 1000 := hz
    have hd : DmOk d := hd
    have ht1 : l.take (i + 1) = l.take i ++ [(z, d)] := by rw [List.take_add_one, hx]; rfl
    refine ⟨_, GV.pair (R := rS) (S := rDmP) (c := (z, d)) (GsV.cons (GV.name 3 nd) (GsV.cons (GV.name 4 nd) GsV.nil)), ?_⟩
    have hpre : TbOk (l.take i) := ⟨by rw [List.length_take]; omega, fun p hp => hn p (List.mem_of_mem_take hp)⟩
    have hnd : ((l.take i).map (·.1)).Nodup := tseq_nodup ats (l.take i) [] (by simp) hseq
    refine HT.when (TV.lendK 2 rfl (TV.not (TV.val (EV.call (i := (ats, l.take i, z, d)) T1 (hr.mono (by decide)) tk (AV.cons (EV.var 0) (AV.cons (EV.var 2) (AV.cons (EV.var 3) (AV.cons (EV.var 4) AV.nil)))) ⟨hA, hpre, hnd, hz, hd⟩ rfl)))) (fun h => ?_) (fun h => ?_)
    · refine HT.raise T.ep tk (EV.fstr (JV.str (JV.txt (EV.var 3) (Nat.le_trans hz (by decide)) (JV.str JV.nil))) (fb _ _ (by decide) (by decide) hz)) fun σ F H' ⟨l', _, dd⟩ => hE CP (bad ?_ _ rfl) H' (hb ▸ dd.eb)
      unfold tablesB
      have hf : tableB ats (l.take i) z d = false := by simpa using h
      have : tseqB ats [] l = false := by
        conv => lhs; rw [← List.take_append_drop (i + 1) l, ht1, tseqB_app, tseqB_app, hseq]
        show (true && (tableB ats ([] ++ l.take i) z d && true) && _) = false
        rw [List.nil_append, hf]; rfl
      rw [this]; rfl
    · have hf : tableB ats (l.take i) z d = true := by simpa using h
      have hnew : z ∉ (l.take i).map (·.1) := by
        intro q
        unfold tableB at hf
        rw [if_pos (by rw [decide_eq_true q, Bool.or_true])] at hf
        cases hf
      refine HT.putK (k := Sum.inr z) 2 rfl hu (EV.lkP (EV.call (i := d) T2 (hr.mono (by decide)) tk (AV.cons (EV.var 4) AV.nil) hd rfl)) (EV.var 3) (fun F v h => h) (by show (kvS (l.take i)).length < 100000; unfold kvS; rw [List.length_map, List.length_take]; omega) ?_
      rw [kput_new _ _ _ hnew, ← ht1]
      refine HT.done (by repeat (first | exact Le.nil | apply Le.keep | apply Le.drop)) ⟨rfl, ?_⟩
      rw [ht1, tseqB_app, hseq]
      show (true && (tableB ats ([] ++ l.take i) z d && true)) = true
      rw [List.nil_append, hf]; rfl
  · rintro Γ' ⟨rfl, hseq⟩
    rw [List.take_length] at hseq ⊢
    refine HT.when (TV.lendD 2 rfl (TV.not (TV.truK Dic.pl (EV.var 2)))) (fun h => ?_) (fun h => ?_)
    · refine HT.raise T.ep tk (EV.strAny EV.str) fun σ F H' ⟨l', _, dd⟩ => hE CP (bad ?_ _ rfl) H' dd.eb
      unfold tablesB
      cases l with
      | nil => rfl
      | cons a r =>
        have h : (!!false) = true := h
        exact absurd h (by decide)
    · refine HT.lkD 2 rfl ?_
      refine HT.ret (EV.var 2) ?_
      show _ = Rs.ok _
      have : tablesB ats l = true := by
        unfold tablesB
        rw [hseq]
        cases l with
        | nil => exact absurd h (by decide)
        | cons a r => rfl
      show (if tablesB ats l then _ else _) = _
      rw [if_pos this]
end
end K2

namespace K2
open PySem L2 Evl Lg PyProof.Rows
abbrev sGN : Stmt := topS 22
abbrev sCN : Stmt := topS 23
abbrev sGX : Stmt := topS 24
def gnames (g : Gp) : List Str := g.map (Str.join "+")
def cnames : List Str → Dm → List Str
  | ns, [] => ns
  | ns, (_, g) :: r => cnames (ns.flatMap fun n => (gnames g).map fun x => n ++ ("/" ++ x)) r
theorem cnames_app (r : Dm) : ∀ (l : Dm) (ns : List Str), cnames ns (l ++ r) = cnames (cnames ns l) r
  | [], _ => rfl
  | (_, g) :: l, ns => cnames_app r l _
def clsN : Dm → List Str
  | [] => []
  | (_, g) :: r => cnames (gnames g) r
theorem join_len (sep : Str) : ∀ l : List Str, (Str.join sep l).length ≤ (l.map (·.length)).sum + l.length * sep.length
  | [] => Nat.zero_le _
  | [x] => by show x.length ≤ _; simp
  | x :: y :: r => by
    have ih := join_len sep (y :: r)
    show (x ++ sep ++ Str.join sep (y :: r)).length ≤ _
    rw [str_app_len, str_app_len, List.map_cons, List.sum_cons, List.length_cons, Nat.add_mul]
    omega
theorem sum_le {l : List Str} {k : Nat} (h : ∀ z ∈ l, z.length ≤ k) : (l.map (·.length)).sum ≤ l.length * k := by
  induction l with
  | nil => simp
  | cons a l ih =>
    rw [List.map_cons, List.sum_cons, List.length_cons, Nat.add_mul]
    have h1 := ih fun z hz => h z (List.mem_cons_of_mem _ hz)
    have h2 := h a List.mem_cons_self
    omega
theorem grp_sub {g : Gp} {x : List Str} (hx : x ∈ g) (hg : GpOk g) : x.length ≤ 50 ∧ StrsOk x ∧ ∀ z ∈ x, z.length ≤ 1000 := by
  have hsub : ∀ z ∈ x, z ∈ g.flatten := fun z hz => List.mem_flatten.mpr ⟨x, hx, hz⟩
  refine ⟨?_, fun z hz => hg.2.2.1 z (hsub z hz), fun z hz => hg.2.2.2 z (hsub z hz)⟩
  refine Nat.le_trans ?_ hg.2.1
  obtain ⟨a, c, rfl⟩ := List.append_of_mem hx
  rw [List.flatten_append, List.flatten_cons, List.length_append, List.length_append]
  omega
theorem gn_len {g : Gp} (hg : GpOk g) : ∀ z ∈ gnames g, z.length ≤ 50050 := by
  intro z hz
  obtain ⟨x, hx, rfl⟩ := List.mem_map.mp hz
  obtain ⟨h1, _, h3⟩ := grp_sub hx hg
  have := join_len "+" x
  have h4 := sum_le h3
  have h5 : x.length * 1000 ≤ 50 * 1000 := Nat.mul_le_mul_right _ h1
  have h6 : x.length * (("+" : Str).length) ≤ 50 * 1 := Nat.mul_le_mul h1 (by decide)
  omega
def PrOk (d : Dm) : Prop := ∀ k, prodC (d.take k) ≤ 10000
section
variable {P : Program} {w : World} {K : PySem.W.Frag} {mg : Str → Option Value} {base : Heap} {CP CU CT : Addr}
abbrev nGN : List Str := ["grouping", "group"]
theorem scGN : FnScope nGN ["grouping"] (defScope sGN) := ⟨rfl, rfl, rfl, by decide +kernel, rfl, by decide +kernel, by decide +kernel⟩
def spGN : Sp := spX (ι := Gp) (fun i => [mk (rLK (rLK rS)) i]) GpOk (fun i => .ok (ow rS (gnames i)))
theorem ok_gn {f : Addr} {fd : FuncData} (F : Fun K "group_names" "group_names" sGN f fd) : FnOk P w K mg base (L2N.CX P w) 1 f fd ["grouping"] spGN := by
  refine fn_ok F scGN (fun _ => rfl) fun g B cdv A' outer s H E hg hr _ => ?_
  have hg : GpOk g := hg
  have hl := hg.1
  have nd := scGN.nd
  conv => arg 5; whnf
  show HT _ _ _ [some (im (rLK (rLK rS)) g), none] _
  exact HT.ret (LV.ev (LV.lcL0 (j := 1) (S := rS) (Str.join "+") (IV.lst Lis.lk (EV.var 0)) nd (by show blkC nGN (defScope sGN) _ [("group", 1)] = true; decide +kernel) (by omega) (fun b' i a s H0 C cl fp hb ha => EV.join Lis.lk EV.str (EV.var 1) (by
    obtain ⟨h1, _, h3⟩ := grp_sub (List.mem_of_getElem? ha) hg
    have h4 := sum_le h3
    have h5 : a.length * 1000 ≤ 50 * 1000 := Nat.mul_le_mul_right _ h1
    have h6 : a.length * (("+" : Str).length) ≤ 50 * 1 := Nat.mul_le_mul h1 (by decide)
    omega)) (fun _ _ _ _ _ => pg_name nd rfl (Or.inl rfl)))) rfl
abbrev nCN : List Str := ["dimensions", "first", "names", "attribute", "grouping", "name", "group"]
theorem scCN : FnScope nCN ["dimensions"] (defScope sCN) := ⟨rfl, rfl, rfl, by decide +kernel, rfl, by decide +kernel, by decide +kernel⟩
def spCN : Sp := spX (ι := Dm) (fun i => [mk rDmL i]) (fun i => i ≠ [] ∧ DmOk i ∧ PrOk i) (fun i => .ok (im (rLK rS) (clsN i)))
theorem cn_len (r : Dm) : ∀ (ns : List Str), ((cnames ns r).length : Int) = (ns.length : Int) * prodC r := by
  induction r with
  | nil => intro ns; show _ = (ns.length : Int) * 1; rw [Int.mul_one]; rfl
  | cons p r ih =>
    intro ns
    obtain ⟨a, g⟩ := p
    show ((cnames _ r).length : Int) = (ns.length : Int) * ((g.length : Int) * prodC r)
    rw [ih, ← Int.mul_assoc]
    congr 1
    have : (ns.flatMap fun (n : Str) => (gnames g).map fun (x : Str) => n ++ (("/" : Str) ++ x)).length = ns.length * g.length := by
      induction ns with
      | nil => simp
      | cons n ns ih2 =>
        rw [List.flatMap_cons, List.length_append, ih2, List.length_map, List.length_cons, Nat.add_mul]
        unfold gnames
        rw [List.length_map]
        omega
    rw [this]
    exact Int.natCast_mul _ _
theorem ok_cn {f : Addr} {fd : FuncData} (F : Fun K "class_names" "class_names" sCN f fd) (T1 : Kn P w K mg base 1 "group_names" ["grouping"] spGN) : FnOk P w K mg base (L2N.CX P w) 2 f fd ["dimensions"] spCN := by
  refine fn_ok F scCN (fun _ => rfl) fun d B cdv A' outer s H E ⟨hne, hd, hpr⟩ hr _ => ?_
  cases d with
  | nil => exact absurd rfl hne
  | cons p r =>
  obtain ⟨a0, g0⟩ := p
  have hd : DmOk ((a0, g0) :: r) := hd
  have hpr : PrOk ((a0, g0) :: r) := hpr
  have hg0 : GpOk g0 := (hd.2 _ List.mem_cons_self).2
  have hgr : ∀ p ∈ r, GpOk p.2 := fun p hp => (hd.2 p (List.mem_cons_of_mem _ hp)).2
  have hlr : r.length ≤ 9 := by have := hd.1; simp at this; omega
  have nd := scCN.nd
  have tk : L2N.Takes (cxOf (L2N.CX P w) P w K mg base nCN "class_names" (defScope sCN) f cdv A' outer s H E) (fun cls d _ H => E cls d H) := L2N.takes_of rfl rfl rfl rfl
  conv => arg 5; whnf
  show HT _ _ _ [some (im rDmL ((a0, g0) :: r)), none, none, none, none, none, none] _
  refine HT.set 1 (EV.ixLK (a := (a0, g0)) Lis.lk (EV.var 0) EV.int (show atI ((a0, g0) :: r) ((0 : Nat) : Int) = _ from atI_nat rfl)) ?_ nd
  refine HT.set 2 (EV.call (i := g0) T1 (hr.mono (by decide)) tk (AV.cons (EV.ixP1 (x := a0) (y := g0) (R := rS) (S := rLK (rLK rS)) (EV.var 1)) AV.nil) hg0 rfl) ?_ nd
  refine HT.lkL 2 rfl ?_
  refine HT.for (IV.list (EV.fz (EV.fromLK (m := 1) Lis.lk (EV.var 0) EV.int))) (fun k Γ => Γ = [some (im rDmL ((a0, g0) :: r)), some (im (rP rS (rLK (rLK rS))) (a0, g0)), some (im (rLK rS) (cnames (gnames g0) (r.take k))), none, none, none, none] ∧ ∀ z ∈ cnames (gnames g0) (r.take k), z.length ≤ 50051 * (k + 1)) ⟨rfl, fun z hz => by have := gn_len hg0 z hz; omega⟩ ?_ ?_ (passes_of rfl)
  · rintro b' i y Γ' hb hi ⟨⟨a, g⟩, hx, rfl⟩ ⟨rfl, hz⟩
    have hx : r[i]? = some (a, g) := hx
    have hg : GpOk g := hgr _ (List.mem_of_getElem? hx)
    have hi9 : i < 9 := by have := (List.getElem?_eq_some_iff.mp hx).1; omega
    have ht1 : r.take (i + 1) = r.take i ++ [(a, g)] := by rw [List.take_add_one, hx]; rfl
    have e1 : cnames (gnames g0) (r.take (i + 1)) = (cnames (gnames g0) (r.take i)).flatMap fun (n : Str) => (gnames g).map fun (x : Str) => n ++ (("/" : Str) ++ x) := by
      rw [ht1, cnames_app]; rfl
    have hlen : ((cnames (gnames g0) (r.take (i + 1))).length : Int) ≤ 10000 := by
      rw [cn_len]
      have h1 := hpr (i + 2)
      rw [List.take_succ_cons] at h1
      have h2 : prodC ((a0, g0) :: r.take (i + 1)) = (g0.length : Int) * prodC (r.take (i + 1)) := rfl
      rw [h2] at h1
      have : ((gnames g0).length : Int) = g0.length := by unfold gnames; rw [List.length_map]
      rw [this]; exact h1
    refine ⟨_, GV.pair (R := rS) (S := rLK (rLK rS)) (c := (a, g)) (GsV.cons (GV.name 3 nd) (GsV.cons (GV.name 4 nd) GsV.nil)), ?_⟩
    refine HT.setC 2 (LV.lc2 (own := [("name", 5), ("group", 6)]) (vs1 := [6]) (U := rS) (Tg.name (R := rS) 5 (by decide) fun _ _ _ _ _ => pg_name nd rfl (Or.inl rfl)) (Tg.name (R := rS) 6 (by decide) fun _ _ _ _ _ => pg_name nd rfl (Or.inl rfl)) (fun _ => gnames g) (fun n x => n ++ ("/" ++ x)) (IV.lst Lis.lk (EV.var 2)) nd (by show blkC nCN (defScope sCN) _ [("name", 5), ("group", 6)] = true; decide +kernel) (by decide) (by rw [← e1]; omega)
      (fun b' i n s H0 C cl fp hb hn => IV.list (EV.fz (EV.call (i := g) (W := fun _ _ _ _ => False) T1 (hr.mono (by decide)) takesN0 (AV.cons (EV.var 4) AV.nil) hg rfl)))
      (fun b' i n j x s H0 C cl fp hb hn hx => by
        have h1 := hz n (List.mem_of_getElem? hn)
        have h2 := gn_len hg x (List.mem_of_getElem? hx)
        have e : n ++ ("/" ++ (x ++ Str.empty)) = n ++ ("/" ++ x) := by rw [app_em]
        rw [← e]
        refine EV.fstrX (JX.txt (EV.var 5) (JX.str (JX.txt (EV.var 6) JX.nil))) ?_
        rw [e, str_app_len, str_app_len]
        have : ("/" : Str).length = 1 := by decide
        omega)) ?_ (sw_true rfl rfl rfl (by decide +kernel))
    rw [← e1]
    refine HT.lkL 2 rfl ?_
    refine HT.done (by repeat (first | exact Le.nil | apply Le.keep | apply Le.drop)) ⟨rfl, fun z hz' => ?_⟩
    rw [e1] at hz'
    obtain ⟨n, hn, hz'⟩ := List.mem_flatMap.mp hz'
    obtain ⟨x, hx', rfl⟩ := List.mem_map.mp hz'
    have h1 := hz n hn
    have h2 := gn_len hg x hx'
    rw [str_app_len, str_app_len]
    have : ("/" : Str).length = 1 := by decide
    omega
  · rintro Γ' ⟨rfl, _⟩
    refine HT.ret (EV.var 2) ?_
    show Rs.ok _ = Rs.ok _
    rw [show (((a0, g0) :: r).drop 1).length = r.length from rfl, List.take_length]
    rfl
end
end K2

namespace K2
open PySem L2 Evl Lg PyProof.Rows
theorem kfold_new {α β : Type} (f : α → Str) (g : α → β) : ∀ (as : List α) (l : List (Str × β)), ((l.map (·.1)) ++ as.map f).Nodup → as.foldl (fun kvs a => kput kvs (Sum.inr (f a)) (g a)) (kvS l) = kvS (l ++ as.map fun a => (f a, g a))
  | [], l, _ => by simp
  | a :: as, l, h => by
    have hn : f a ∉ l.map (·.1) := fun q => (List.nodup_append.mp h).2.2 _ q _ (by simp) rfl
    rw [List.foldl_cons, kput_new _ _ _ hn, kfold_new f g as]
    · rw [List.append_assoc]; rfl
    · rw [List.map_append, List.append_assoc]; exact h
def gpairs (g : Gp) : List (Str × Int) := (enL g).flatMap fun p => p.2.map fun c => (c, p.1)
def gnum (g : Gp) : List (Key × Int) := (enL g).foldl (fun kvs p => p.2.foldl (fun kvs c => kput kvs (Sum.inr c) p.1) kvs) []
theorem enL_snd {α : Type} (g : List α) : (enL g).map (·.2) = g := by
  apply List.ext_getElem?
  intro i
  rw [List.getElem?_map]
  cases h : g[i]? with
  | none =>
    have : (enL g)[i]? = none := by
      rw [List.getElem?_eq_none_iff] at h ⊢
      rw [enL_len]; exact h
    rw [this]; rfl
  | some a => rw [enL_get h]; rfl
theorem gp_keys (g : Gp) : (gpairs g).map (·.1) = g.flatten := by
  unfold gpairs
  have : ∀ l : List (Int × List Str), (l.flatMap fun p => p.2.map fun c => (c, p.1)).map (·.1) = (l.map (·.2)).flatten := by
    intro l
    induction l with
    | nil => rfl
    | cons p l ih => rw [List.flatMap_cons, List.map_append, ih, List.map_cons, List.flatten_cons, List.map_map]; congr 1; exact List.map_id' _
  rw [this, enL_snd]
theorem gnum_eq {g : Gp} (h : g.flatten.Nodup) : gnum g = kvS (gpairs g) := by
  have e : gnum g = (gpairs g).foldl (fun kvs q => kput kvs (Sum.inr q.1) q.2) [] := by
    unfold gnum gpairs
    rw [List.foldl_flatMap]
    congr 1
    funext kvs p
    rw [List.foldl_map]
  rw [e]
  have := kfold_new (fun q : Str × Int => q.1) (fun q => q.2) (gpairs g) [] (by rw [gp_keys]; exact h)
  rw [show kvS ([] : List (Str × Int)) = [] from rfl] at this
  rw [this, List.nil_append]
  congr 1
  exact List.map_id' _
/-- the number of the group of a value -/
def grpOf (g : Gp) (v : Str) : Int := (((g.findIdx? fun x => decide (v ∈ x)).getD 0 : Nat) : Int)
theorem gnum_get {g : Gp} (h : g.flatten.Nodup) {v : Str} (hv : v ∈ g.flatten) : kget (gnum g) (Sum.inr v) = some (grpOf g v) := by
  rw [gnum_eq h, kget_kvS]
  -- the first pair with v is the one of v's group
  obtain ⟨x, hx, hvx⟩ := List.mem_flatten.mp hv
  cases q : g.findIdx? fun x => decide (v ∈ x) with
  | none =>
    rw [List.findIdx?_eq_none_iff] at q
    have := q x hx
    simp [hvx] at this
  | some k =>
    have hk := List.findIdx?_eq_some_iff_getElem.mp q
    obtain ⟨hlt, hmem, hmin⟩ := hk
    have hin : (v, (k : Int)) ∈ gpairs g := by
      unfold gpairs
      rw [List.mem_flatMap]
      exact ⟨((k : Int), g[k]), List.mem_of_getElem? (enL_get (List.getElem?_eq_getElem hlt)), List.mem_map.mpr ⟨v, of_decide_eq_true hmem, rfl⟩⟩
    have hu : (gpairs g).find? (fun p => decide (p.1 = v)) = some (v, (k : Int)) := by
      have nd : ((gpairs g).map (·.1)).Nodup := by rw [gp_keys]; exact h
      generalize gpairs g = l at hin nd
      induction l with
      | nil => cases hin
      | cons p l ih =>
        rw [List.map_cons, List.nodup_cons] at nd
        rw [List.find?_cons]
        rcases List.mem_cons.mp hin with e | e
        · rw [← e, decide_eq_true rfl]
        · rw [decide_eq_false fun z => nd.1 (List.mem_map.mpr ⟨_, e, z.symm⟩)]
          exact ih e nd.2
    rw [hu]
    show some (k : Int) = some (grpOf g v)
    unfold grpOf
    rw [q]; rfl
section
variable {P : Program} {w : World} {K : PySem.W.Frag} {mg : Str → Option Value} {base : Heap} {CP CU CT CPl CR CB : Addr}
abbrev nGX : List Str := ["grouping", "number", "group", "value"]
theorem scGX : FnScope nGX ["grouping"] (defScope sGX) := ⟨rfl, rfl, rfl, by decide +kernel, rfl, by decide +kernel, by decide +kernel⟩
def spGX : Sp := spX (ι := Gp) (fun i => [mk (rLK (rLK rS)) i]) GpOk (fun i => .ok (owD rI (gnum i)))
theorem ok_gx {f : Addr} {fd : FuncData} (F : Fun K "group_numbers" "group_numbers" sGX f fd) (V : Tw mg) : FnOk P w K mg base (L2N.CX P w) 1 f fd ["grouping"] spGX := by
  refine fn_ok F scGX (fun _ => rfl) fun g B cdv A' outer s H E hg hr _ => ?_
  have hg : GpOk g := hg
  have nd := scGX.nd
  conv => arg 5; whnf
  show HT _ _ _ [some (im (rLK (rLK rS)) g), none, none, none] _
  exact HT.ret (LV.ev (LV.dc2 (own := [("number", 1), ("group", 2), ("value", 3)]) (vs1 := [3]) (U := rI) (Tg.pair (R := rI) (S := rLK rS) 1 2 (by decide) (by decide) fun _ _ _ _ _ => pg_tup rfl (pgs_cons (pg_name nd rfl (Or.inl rfl)) (pgs_cons (pg_name nd rfl (Or.inl rfl)) pgs_nil))) (Tg.name (R := rS) 3 (by decide) fun _ _ _ _ _ => pg_name nd rfl (Or.inl rfl)) (fun p : Int × List Str => p.2) (fun _ c => Sum.inr c) (fun p _ => p.1) (IV.enumL Lis.lk (AV.cons (EV.var 0) AV.nil) V.enm) nd (by show blkC nGX (defScope sGX) _ [("number", 1), ("group", 2), ("value", 3)] = true; decide +kernel) (by decide) (by
      have e : (enL g).flatMap (fun p => p.2) = g.flatten := by
        rw [List.flatMap_def, show (enL g).map (fun p => p.2) = g from enL_snd g]
      rw [e]; have := hg.2.1; omega)
    (fun b' i n s H0 C cl fp hb hn => IV.lst Lis.lk (EV.var 2)) (fun b' i n j c hb hn hc => ⟨_, rS, c, fun s H0 C cl fp => EV.var 3, fun F v h => h⟩) (fun b' i n j c s H0 C cl fp hb hn hc => EV.var 1))) rfl
end
end K2

namespace K2
open PySem L2 Evl Lg PyProof.Rows
abbrev sPl (i : Nat) : Stmt := inClass (topS 25) i
/-- the place of an attribute -/
def posOf (ats : At) (a : Str) : Int := (((ats.map (·.1)).findIdx? fun x => decide (x = a)).getD 0 : Nat)
def scl (ats : At) (d : Dm) : List (Int × List (Key × Int) × Int) := d.map fun p => (posOf ats p.1, gnum p.2, (p.2.length : Int))
abbrev rScl : Rl (Int × List (Key × Int) × Int) := rP3 rI (rDK rI) rI
abbrev Pl := Ar × At × Tb
def planF4 (CT : Addr) (i : Pl) : List (Str × Im) := [("areas", mk (rTree CT) i.1), ("_attributes", mk (rDK (rLK rS)) (kvS i.2.1)), ("_tables", mk (rDK rDmL) (kvS i.2.2)), ("_classes", mk (rDK (rLK rS)) (kvS (i.2.2.map fun p => (p.1, clsN p.2))))]
def planF (CT : Addr) (i : Pl) : List (Str × Im) := [("areas", mk (rTree CT) i.1), ("_attributes", mk (rDK (rLK rS)) (kvS i.2.1)), ("_tables", mk (rDK rDmL) (kvS i.2.2)), ("_classes", mk (rDK (rLK rS)) (kvS (i.2.2.map fun p => (p.1, clsN p.2)))), ("_scales", mk (rDK (rLK rScl)) (kvS (i.2.2.map fun p => (p.1, scl i.2.1 p.2))))]
abbrev rPart (CPl CT : Addr) : Rl Pl := rObj CPl (planF4 CT)
abbrev rPlan (CPl CT : Addr) : Rl Pl := rObj CPl (planF CT)
structure Tpl (K : PySem.W.Frag) (CPl : Addr) : Prop where
  c : Cls K CPl
  nAr : NoAttr K CPl "areas"
  nAt : NoAttr K CPl "_attributes"
  nTb : NoAttr K CPl "_tables"
  nCl : NoAttr K CPl "_classes"
  nSc : NoAttr K CPl "_scales"
theorem map_get {β γ : Type} (l : List (Str × β)) (f : β → γ) (n : Str) : kget (kvS (l.map fun p => (p.1, f p.2))) (Sum.inr n) = (kget (kvS l) (Sum.inr n)).map f := by
  rw [kget_kvS, kget_kvS, List.find?_map]
  cases h : l.find? ((fun p => decide (p.1 = n)) ∘ fun p : Str × β => (p.1, f p.2)) with
  | none =>
    rw [show l.find? (fun p => decide (p.1 = n)) = none from h]; rfl
  | some p => rw [show l.find? (fun p => decide (p.1 = n)) = some p from h]; rfl
theorem dims_kget {t : Tb} {n : Str} (h : n ∈ t.map (·.1)) : kget (kvS t) (Sum.inr n) = some (dimsOfT t n) := by
  have q := kget_some t n
  rw [decide_eq_true h] at q
  rw [kget_kvS] at q ⊢
  unfold dimsOfT
  cases z : (t.find? fun p => decide (p.1 = n)).map (·.2) with
  | none => rw [z] at q; cases q
  | some o => rfl
theorem dims_mem {t : Tb} {n : Str} (h : n ∈ t.map (·.1)) : (n, dimsOfT t n) ∈ t := by
  unfold dimsOfT
  cases z : t.find? fun p => decide (p.1 = n) with
  | none =>
    obtain ⟨p, hp, rfl⟩ := List.mem_map.mp h
    have := List.find?_eq_none.mp z p hp
    simp at this
  | some p =>
    have h1 := List.mem_of_find?_eq_some z
    have h3 := List.find?_some z
    have h2 : p.1 = n := of_decide_eq_true h3
    show (n, p.2) ∈ t
    rw [← h2]
    exact h1
/-- the dict of the places -/
def plcs (ns : List Str) : List (Key × Int) := (enL ns).foldl (fun kvs p => kput kvs (Sum.inr p.2) p.1) []
theorem plcs_get {ats : At} (h : (ats.map (·.1)).Nodup) {a : Str} (ha : a ∈ ats.map (·.1)) : kget (plcs (ats.map (·.1))) (Sum.inr a) = some (posOf ats a) := by
  generalize hns : ats.map (·.1) = ns at h ha
  unfold plcs posOf
  rw [hns]
  have e := kfold_new (fun p : Int × Str => p.2) (fun p => p.1) (enL ns) [] (by rw [enL_snd]; exact h)
  rw [show kvS ([] : List (Str × Int)) = [] from rfl, List.nil_append] at e
  rw [e, kget_kvS]
  cases q : ns.findIdx? fun x => decide (x = a) with
  | none =>
    rw [List.findIdx?_eq_none_iff] at q
    have := q a ha
    simp at this
  | some k =>
    obtain ⟨hlt, hm, _⟩ := List.findIdx?_eq_some_iff_getElem.mp q
    have hm : ns[k] = a := of_decide_eq_true hm
    have hin : (a, (k : Int)) ∈ (enL ns).map fun p => (p.2, p.1) := List.mem_map.mpr ⟨((k : Int), a), List.mem_of_getElem? (enL_get (by rw [List.getElem?_eq_getElem hlt, hm])), rfl⟩
    have nd : (((enL ns).map fun p => (p.2, p.1)).map (·.1)).Nodup := by
      rw [List.map_map, show ((fun p : Str × Int => p.1) ∘ fun p : Int × Str => (p.2, p.1)) = (fun p => p.2) from rfl, enL_snd]; exact h
    have hu : ((enL ns).map fun p => (p.2, p.1)).find? (fun p => decide (p.1 = a)) = some (a, (k : Int)) := by
      generalize (enL ns).map (fun p => (p.2, p.1)) = l at hin nd
      induction l with
      | nil => cases hin
      | cons p l ih =>
        rw [List.map_cons, List.nodup_cons] at nd
        rw [List.find?_cons]
        rcases List.mem_cons.mp hin with e | e
        · rw [← e, decide_eq_true rfl]
        · rw [decide_eq_false fun z => nd.1 (List.mem_map.mpr ⟨_, e, z.symm⟩)]
          exact ih e nd.2
    rw [hu]; rfl
section
variable {P : Program} {w : World} {K : PySem.W.Frag} {mg : Str → Option Value} {base : Heap} {CP CU CT CPl CR CB : Addr}
abbrev nSc : List Str := ["self", "table", "places", "scale", "attribute", "grouping", "place", "name"]
theorem scSc : FnScope nSc ["self", "table"] (defScope (sPl 7)) := ⟨rfl, rfl, rfl, by decide +kernel, rfl, by decide +kernel, by decide +kernel⟩
def spSc (CPl CT : Addr) : Sp := spY (ι := Pl × Str) (fun i => [mk (rPart CPl CT) i.1, mk rS i.2]) (fun i => (i.1.2.1.map (·.1)).Nodup ∧ i.1.2.1.length ≤ 50 ∧ i.2 ∈ i.1.2.2.map (·.1) ∧ DmOk (dimsOfT i.1.2.2 i.2) ∧ ∀ p ∈ dimsOfT i.1.2.2 i.2, p.1 ∈ i.1.2.1.map (·.1)) (fun i => .ok (im (rLK rScl) (scl i.1.2.1 (dimsOfT i.1.2.2 i.2))))
theorem ok_sc {f : Addr} {fd : FuncData} (F : Fun K "_scale" "Plan._scale" (sPl 7) f fd) (T : Tp K mg CP CU CT) (V : Tw mg) (Q : Tpl K CPl) (T1 : Kn P w K mg base 1 "group_numbers" ["grouping"] spGX) : FnOk P w K mg base (L2N.CX P w) 2 f fd ["self", "table"] (spSc CPl CT) := by
  refine fn_okY F scSc (fun _ => rfl) fun ⟨⟨ar, ats, tbs⟩, n⟩ B cdv A' outer s H E ⟨hnd, hl, hn, hd, hm⟩ hr _ _ => ?_
  have hnd : (ats.map (·.1)).Nodup := hnd
  have hl : ats.length ≤ 50 := hl
  have hn : n ∈ tbs.map (·.1) := hn
  have hd : DmOk (dimsOfT tbs n) := hd
  have hm : ∀ p ∈ dimsOfT tbs n, p.1 ∈ ats.map (·.1) := hm
  have nd := scSc.nd
  have tk : L2N.Takes (cxOf (L2N.CX P w) P w K mg base nSc "Plan._scale" (defScope (sPl 7)) f cdv A' outer s H E) (fun cls d _ H => E cls d H) := L2N.takes_of rfl rfl rfl rfl
  have hu := u1 hr
  conv => arg 5; whnf
  show HT _ _ _ [some (im (rPart CPl CT) (ar, ats, tbs)), some (im rS n), none, none, none, none, none, none] _
  refine HT.setC 2 (LV.dc1 (own := [("place", 6), ("name", 7)]) (U := rI) (Tg.pair (R := rI) (S := rS) 6 7 (by decide) (by decide) fun _ _ _ _ _ => pg_tup rfl (pgs_cons (pg_name nd rfl (Or.inl rfl)) (pgs_cons (pg_name nd rfl (Or.inl rfl)) pgs_nil))) (fun p : Int × Str => Sum.inr p.2) (fun p => p.1) (IV.enumK (AV.cons (EV.fld (fs := planF4 CT) (x := (ar, ats, tbs)) Q.c (EV.var 0) rfl Q.nAt) AV.nil) (kvS_ks ats) V.enm) nd (by show blkC nSc (defScope (sPl 7)) _ [("place", 6), ("name", 7)] = true; decide +kernel) (by rw [enL_len, List.length_map]; omega)
    (fun b' i p hb hp => ⟨_, rS, p.2, fun s H0 C cl fp => EV.var 7, fun F v h => h⟩) (fun b' i p s H0 C cl fp hb hp => EV.var 6)) ?_ (sw_dict rfl rfl rfl rfl)
  refine HT.set 3 (EV.lst (R := rScl) (as := []) AV.nil rfl (by decide)) ?_ nd
  refine HT.for (IV.lst Lis.lk (EV.getK (k := Sum.inr n) Dic.lk hu (EV.fld (fs := planF4 CT) (x := (ar, ats, tbs)) Q.c (EV.var 0) rfl Q.nTb) (EV.var 1) (fun F v h => h) (dims_kget hn))) (fun k Γ => Γ = [some (im (rPart CPl CT) (ar, ats, tbs)), some (im rS n), some (owD rI (plcs (ats.map (·.1)))), some (ow rScl (scl ats ((dimsOfT tbs n).take k))), none, none, none, none]) rfl ?_ ?_ (passes_of rfl)
  · rintro b' i y Γ' hb hi ⟨⟨a, g⟩, hx, rfl⟩ rfl
    have hmem := List.mem_of_getElem? hx
    have ha := hm _ hmem
    have hg : GpOk g := (hd.2 _ hmem).2
    refine ⟨_, GV.pair (R := rS) (S := rLK (rLK rS)) (c := (a, g)) (GsV.cons (GV.name 4 nd) (GsV.cons (GV.name 5 nd) GsV.nil)), ?_⟩
    refine HT.append (x := (posOf ats a, gnum g, (g.length : Int))) 3 rfl (EV.tri (R := rI) (S := rDK rI) (T := rI) (AV.cons (EV.lendD 2 rfl NoL.int (EV.getK (k := Sum.inr a) Dic.pl hu (EV.var 2) (EV.var 4) (fun F v h => h) (plcs_get hnd ha))) (AV.cons (EV.lkD (EV.call (i := g) T1 (hr.mono (by decide)) tk (AV.cons (EV.var 5) AV.nil) hg rfl)) (AV.cons (EV.lenLK Lis.lk (AV.cons (EV.var 5) AV.nil) T.len) AV.nil)))) (by
      have := hd.1
      unfold scl
      rw [List.length_map, List.length_take]; omega) ?_
    have e : scl ats ((dimsOfT tbs n).take i) ++ [(posOf ats a, gnum g, (g.length : Int))] = scl ats ((dimsOfT tbs n).take (i + 1)) := by
      rw [List.take_add_one, hx]
      unfold scl
      rw [List.map_append]; rfl
    rw [e]
    exact HT.done (by repeat (first | exact Le.nil | apply Le.keep | apply Le.drop)) rfl
  · rintro Γ' rfl
    rw [List.take_length]
    refine HT.lkL 3 rfl ?_
    exact HT.ret (EV.var 3) rfl
end
end K2

namespace K2
open PySem L2 Evl Lg PyProof.Rows
theorem dd_le (xs : List Str) : ∀ d : List Str, (xs.foldl (fun d x => if x ∈ d then d else d ++ [x]) d).length ≤ d.length + xs.length := by
  induction xs with
  | nil => intro d; exact Nat.le_refl _
  | cons x xs ih =>
    intro d
    rw [List.foldl_cons]
    refine Nat.le_trans (ih _) ?_
    split
    · rw [List.length_cons]; omega
    · rw [List.length_append, List.length_cons]; simp; omega
theorem dd_nd (xs : List Str) : ∀ d : List Str, d.Nodup → d.length + xs.length ≤ (xs.foldl (fun d x => if x ∈ d then d else d ++ [x]) d).length → (d ++ xs).Nodup := by
  induction xs with
  | nil => intro d hd _; rw [List.append_nil]; exact hd
  | cons x xs ih =>
    intro d hd h
    rw [List.foldl_cons] at h
    by_cases hx : x ∈ d
    · rw [if_pos hx] at h
      have := dd_le xs d
      rw [List.length_cons] at h
      omega
    · rw [if_neg hx] at h
      have := ih (d ++ [x]) (by
        rw [List.nodup_append]
        exact ⟨hd, by simp, fun a ha b hb e => hx (by rw [List.mem_singleton.mp hb] at e; rw [← e]; exact ha)⟩) (by rw [List.length_append, List.length_singleton]; rw [List.length_cons] at h; omega)
      rwa [List.append_assoc] at this
theorem attr_facts {U : List Str} {n : Str} {vs : List Str} (h : attrB U n vs = true) : n ∉ U ∧ nameB n = true ∧ vs.Nodup ∧ 2 ≤ vs.length ∧ vs.all nameB = true := by
  unfold attrB at h
  split at h
  · cases h
  · rename_i h1
    split at h
    · cases h
    · rename_i h2
      rw [Bool.or_eq_true, not_or] at h1 h2
      refine ⟨fun z => h1.2 (decide_eq_true z), ?_, ?_, ?_, h⟩
      · have := h1.1
        cases e : nameB n with
        | true => rfl
        | false => rw [e] at this; exact absurd rfl this
      · have := h2.2
        rw [decide_eq_true_eq] at this
        have q := dd_nd vs [] List.nodup_nil (by
          show 0 + vs.length ≤ (Sx.dd vs).length
          omega)
        rwa [List.nil_append] at q
      · have := h2.1
        rw [decide_eq_true_eq] at this
        omega
theorem aseq_nodup : ∀ (l : At) (U : List Str), U.Nodup → aseqB U l = true → (U ++ l.map (·.1)).Nodup
  | [], U, h, _ => by rw [List.map_nil, List.append_nil]; exact h
  | (n, vs) :: l, U, h, k => by
    have k : (attrB U n vs && aseqB (U ++ [n]) l) = true := k
    rw [Bool.and_eq_true] at k
    have hn := (attr_facts k.1).1
    have := aseq_nodup l (U ++ [n]) (by
      rw [List.nodup_append]
      exact ⟨h, by simp, fun a ha b hb e => hn (by rw [List.mem_singleton.mp hb] at e; rw [← e]; exact ha)⟩) k.2
    rwa [List.append_assoc] at this
theorem aseq_all : ∀ (l : At) (U : List Str), aseqB U l = true → ∀ p ∈ l, ∃ U', attrB U' p.1 p.2 = true
  | [], _, _, _, h => nomatch h
  | (n, vs) :: l, U, k, p, h => by
    have k : (attrB U n vs && aseqB (U ++ [n]) l) = true := k
    rw [Bool.and_eq_true] at k
    rcases List.mem_cons.mp h with e | e
    · rw [e]; exact ⟨U, k.1⟩
    · exact aseq_all l _ k.2 p e
theorem tseq_all (ats : At) : ∀ (l U : Tb), tseqB ats U l = true → ∀ p ∈ l, ∃ U', tableB ats U' p.1 p.2 = true
  | [], _, _, _, h => nomatch h
  | (n, d) :: l, U, k, p, h => by
    have k : (tableB ats U n d && tseqB ats (U ++ [(n, d)]) l) = true := k
    rw [Bool.and_eq_true] at k
    rcases List.mem_cons.mp h with e | e
    · rw [e]; exact ⟨U, k.1⟩
    · exact tseq_all ats l _ k.2 p e
theorem table_facts {ats : At} {U : Tb} {n : Str} {d : Dm} (h : tableB ats U n d = true) : nameB n = true ∧ dimsB ats (usedT U) d = true ∧ 2 ≤ prodC d := by
  unfold tableB at h
  split at h
  · cases h
  · rename_i h1
    rw [Bool.or_eq_true, not_or] at h1
    rw [Bool.and_eq_true, decide_eq_true_eq] at h
    refine ⟨?_, h.1, h.2⟩
    have := h1.1
    cases e : nameB n with
    | true => rfl
    | false => rw [e] at this; exact absurd rfl this
theorem dims_all (ats : At) : ∀ (d : Dm) (U : List Str), dimsB ats U d = true → ∀ p ∈ d, p.1 ∈ ats.map (·.1) ∧ groupB (valsOf ats p.1) p.2 = true
  | [], _, _, _, h => nomatch h
  | (a, g) :: d, U, k, p, h => by
    have k : (if !decide (a ∈ ats.map (·.1)) || decide (a ∈ U) then false else if !groupB (valsOf ats a) g then false else dimsB ats (U ++ [a]) d) = true := k
    split at k
    · cases k
    · rename_i h1
      split at k
      · cases k
      · rename_i h2
        rcases List.mem_cons.mp h with e | e
        · rw [e]
          rw [Bool.or_eq_true, not_or] at h1
          refine ⟨by simpa using h1.1, ?_⟩
          cases q : groupB (valsOf ats a) g with
          | true => rfl
          | false => rw [q] at h2; exact absurd rfl h2
        · exact dims_all ats d _ k p e
structure PlOk (i : Pl) : Prop where
  at_ : AtOk i.2.1
  tb : TbOk i.2.2
  ab : attrsB i.2.1 = true
  tt : tablesB i.2.1 i.2.2 = true
theorem PlOk.atn {i : Pl} (h : PlOk i) : (i.2.1.map (·.1)).Nodup := by
  have := h.ab
  unfold attrsB at this
  rw [Bool.and_eq_true] at this
  have q := aseq_nodup _ [] List.nodup_nil this.1
  rwa [List.nil_append] at q
theorem PlOk.tbn {i : Pl} (h : PlOk i) : (i.2.2.map (·.1)).Nodup := by
  have := h.tt
  unfold tablesB at this
  rw [Bool.and_eq_true] at this
  have q := tseq_nodup _ i.2.2 [] (by simp) this.1
  rwa [List.nil_append] at q
theorem PlOk.vals {i : Pl} (h : PlOk i) {a : Str} (ha : a ∈ i.2.1.map (·.1)) : (valsOf i.2.1 a).Nodup ∧ (valsOf i.2.1 a).length ≤ 50 ∧ 2 ≤ (valsOf i.2.1 a).length := by
  have hm := vals_mem ha
  have := h.ab
  unfold attrsB at this
  rw [Bool.and_eq_true] at this
  obtain ⟨U', hU⟩ := aseq_all _ _ this.1 _ hm
  have q := attr_facts hU
  exact ⟨q.2.2.1, (h.at_.2 _ hm).2.1, q.2.2.2.1⟩
theorem PlOk.dims {i : Pl} (h : PlOk i) {n : Str} (hn : n ∈ i.2.2.map (·.1)) : DmOk (dimsOfT i.2.2 n) ∧ dimsOfT i.2.2 n ≠ [] ∧ ∀ p ∈ dimsOfT i.2.2 n, p.1 ∈ i.2.1.map (·.1) ∧ GpOk p.2 ∧ groupB (valsOf i.2.1 p.1) p.2 = true := by
  have hm := dims_mem hn
  have := h.tt
  unfold tablesB at this
  rw [Bool.and_eq_true] at this
  obtain ⟨U', hU⟩ := tseq_all _ _ _ this.1 _ hm
  obtain ⟨_, q2, q3⟩ := table_facts hU
  have hd := (h.tb.2 _ hm).2
  refine ⟨hd, fun z => ?_, fun p hp => ?_⟩
  · have q3 : 2 ≤ prodC (dimsOfT i.2.2 n) := q3
    rw [z] at q3
    exact absurd q3 (by decide)
  · have q := dims_all _ _ _ q2 p hp
    exact ⟨q.1, (hd.2 p hp).2, q.2⟩
theorem group_perm {vs : List Str} {g : Gp} (h : groupB vs g = true) : g.flatten.Perm vs := by
  unfold groupB at h
  split at h
  · cases h
  · exact of_decide_eq_true h
/-- the values of a record fit -/
def hasB (ats : At) (vs : List Str) : Bool := if !decide ((vs.length : Int) = (ats.length : Int)) then false else ((vs.zip (ats.map (·.1))).map fun p => decide (p.1 ∈ valsOf ats p.2)).all id
def posN (ats : At) (a : Str) : Nat := ((ats.map (·.1)).findIdx? fun x => decide (x = a)).getD 0
theorem posOf_eq (ats : At) (a : Str) : posOf ats a = (posN ats a : Int) := rfl
theorem pos_get {ats : At} {a : Str} (ha : a ∈ ats.map (·.1)) : (ats.map (·.1))[posN ats a]? = some a := by
  unfold posN
  generalize ats.map (·.1) = ns at ha
  cases q : ns.findIdx? fun x => decide (x = a) with
  | none =>
    rw [List.findIdx?_eq_none_iff] at q
    have := q a ha
    simp at this
  | some k =>
    obtain ⟨hlt, hm, _⟩ := List.findIdx?_eq_some_iff_getElem.mp q
    show ns[k]? = some a
    rw [List.getElem?_eq_getElem hlt, of_decide_eq_true hm]
theorem has_val {ats : At} {vs : List Str} (h : hasB ats vs = true) {a : Str} (ha : a ∈ ats.map (·.1)) : ∃ v, vs[posN ats a]? = some v ∧ v ∈ valsOf ats a := by
  unfold hasB at h
  split at h
  · cases h
  · rename_i h1
    have hl : vs.length = ats.length := by
      have : ((vs.length : Int) = (ats.length : Int)) := by simpa using h1
      omega
    have hp := pos_get ha
    have hk : posN ats a < vs.length := by
      have := (List.getElem?_eq_some_iff.mp hp).1
      rw [List.length_map] at this
      omega
    refine ⟨vs[posN ats a], List.getElem?_eq_getElem hk, ?_⟩
    rw [List.all_map, List.all_eq_true] at h
    have hz : (vs.zip (ats.map (·.1)))[posN ats a]? = some (vs[posN ats a], a) := by
      rw [List.getElem?_zip_eq_some]
      exact ⟨List.getElem?_eq_getElem hk, hp⟩
    have := h _ (List.mem_of_getElem? hz)
    exact of_decide_eq_true this
def clsNo (ats : At) (vs : List Str) (d : Dm) : Int := d.foldl (fun num p => num * (p.2.length : Int) + grpOf p.2 (vs.getD (posN ats p.1) "")) 0
end K2

namespace K2
open PySem L2 Evl Lg PyProof.Rows
theorem vals_eq : ∀ (ats : At), (ats.map (·.1)).Nodup → ∀ p ∈ ats, valsOf ats p.1 = p.2 := fun ats htn p hp => by
  unfold valsOf
  have : ats.find? (fun q => decide (q.1 = p.1)) = some p := by
    induction ats with
    | nil => cases hp
    | cons q r ih =>
      rw [List.map_cons, List.nodup_cons] at htn
      rw [List.find?_cons]
      rcases List.mem_cons.mp hp with e | e
      · rw [e, decide_eq_true rfl]
      · rw [decide_eq_false fun z => htn.1 (List.mem_map.mpr ⟨p, e, z.symm⟩)]
        exact ih htn.2 e
  rw [this]; rfl
theorem ats_back {ats : At} (h : (ats.map (·.1)).Nodup) : ((ats.map (·.1)).map fun n => (n, valsOf ats n)) = ats := by
  rw [List.map_map]
  have : ∀ p ∈ ats, ((fun n => (n, valsOf ats n)) ∘ fun p : Str × List Str => p.1) p = id p := fun p hp => by
    show (p.1, valsOf ats p.1) = p
    rw [vals_eq ats h p hp]
  rw [List.map_congr_left this, List.map_id]
section
variable {P : Program} {w : World} {K : PySem.W.Frag} {mg : Str → Option Value} {base : Heap} {CP CU CT CPl CR CB : Addr}
def knownN (CU : Addr) (ns : List Str) (n : Str) (s : Ry) : Ry := if n ∈ ns then s else .errF CU [("name", .str n)]
theorem kn_ok {ns : List Str} {n : Str} {s : Sl} (hk : n ∈ ns) (s' : Sl) (h : knownN CU ns n (.ok s) = .ok s') : s' = s := by
  unfold knownN at h; rw [if_pos hk] at h; cases h; rfl
theorem kn_err {ns : List Str} {n : Str} {s : Sl} {C : Addr} (h : knownN CU ns n (.ok s) = .err C) : False := by
  unfold knownN at h; split at h <;> cases h
theorem kn_noF {ns : List Str} {n : Str} {s : Sl} {C : Addr} {fs : List (Str × V)} (hk : n ∈ ns) (h : knownN CU ns n (.ok s) = .errF C fs) : False := by
  unfold knownN at h; rw [if_pos hk] at h; cases h
theorem kn_unk {ns : List Str} {n : Str} {s : Ry} (hk : n ∉ ns) : knownN CU ns n s = .errF CU [("name", .str n)] := if_neg hk
theorem kn_in {ns : List Str} {n : Str} {s : Ry} (hk : n ∈ ns) : knownN CU ns n s = s := if_pos hk
theorem kn_no {ns : List Str} {n : Str} {s : Ry} {s' : Sl} (hk : n ∉ ns) (h : knownN CU ns n s = .ok s') : False := by
  unfold knownN at h; rw [if_neg hk] at h; cases h
theorem knF {b : Bs} {Γ : Lg.Ctx} {W : WX} {ns : List Str} {n : Str} {s : Ry} {C : Addr} {fs : List (Str × V)} (hk : n ∉ ns) (h : knownN CU ns n s = .errF C fs) (q : XwF b Γ W CU [("name", .str n)]) : XwF b Γ W C fs := by
  unfold knownN at h; rw [if_neg hk] at h; cases h; exact q
abbrev tbns (i : Pl) : List Str := i.2.2.map (·.1)
theorem scCk : FnScope ["self", "table"] ["self", "table"] (defScope (sPl 6)) := ⟨rfl, rfl, rfl, by decide +kernel, rfl, by decide +kernel, by decide +kernel⟩
def spCk (CPl CT CU : Addr) : Sp := spY (ι := Pl × Str) (fun i => [mk (rPlan CPl CT) i.1, mk rS i.2]) (fun i => i.2.length ≤ 1000) (fun i => knownN CU (tbns i.1) i.2 (.ok (im rU ())))
theorem ok_ck {f : Addr} {fd : FuncData} (F : Fun K "_check" "Plan._check" (sPl 6) f fd) (Q : Tpl K CPl) (TU : FldC P w K mg base 1 "UnknownName" "name" CU) : FnOk P w K mg base (L2N.CX P w) 3 f fd ["self", "table"] (spCk CPl CT CU) := by
  refine fn_okY F scCk (fun _ => rfl) fun ⟨⟨ar, ats, tbs⟩, z⟩ B cdv A' outer s H E hp hr hE hF => ?_
  have hp : z.length ≤ 1000 := hp
  have hu := u1 hr
  have tk : L2N.Takes (cxOf (L2N.CX P w) P w K mg base ["self", "table"] "Plan._check" (defScope (sPl 6)) f cdv A' outer s H E) (fun cls d _ H => E cls d H) := L2N.takes_of rfl rfl rfl rfl
  conv => arg 5; whnf
  show HT _ _ _ [some (im (rPlan CPl CT) (ar, ats, tbs)), some (im rS z)] _
  refine HT.when (TV.ninK (k := Sum.inr z) Dic.lk hu (EV.var 1) (fun F v h => h) (EV.fld (fs := planF CT) (x := (ar, ats, tbs)) Q.c (EV.var 0) rfl Q.nTb)) (fun h => ?_) (fun h => HT.nil ?_)
  · rw [kget_some] at h
    refine HT.raiseF TU hr tk (EV.var 1) hp fun σ F H' d ⟨l', _, dd⟩ hd => hF CU _ ?_ H' d dd.eb hd
    exact kn_unk (by simpa using h)
  · rw [kget_some] at h
    exact kn_in (by simpa using h)
/-! attributes, tables, classes, dimensions -/
theorem scAts : FnScope ["self", "name"] ["self"] (defScope (sPl 1)) := ⟨rfl, rfl, rfl, by decide +kernel, rfl, by decide +kernel, by decide +kernel⟩
def spAts (CPl CT : Addr) : Sp := spX (ι := Pl) (fun i => [mk (rPlan CPl CT) i]) PlOk (fun i => .ok (ow (rP rS (rL rS)) i.2.1))
theorem ok_ats {f : Addr} {fd : FuncData} (F : Fun K "attributes" "Plan.attributes" (sPl 1) f fd) (T : Tp K mg CP CU CT) (Q : Tpl K CPl) : FnOk P w K mg base (L2N.CX P w) 1 f fd ["self"] (spAts CPl CT) := by
  refine fn_ok F scAts (fun _ => rfl) fun ⟨ar, ats, tbs⟩ B cdv A' outer s H E hp hr _ => ?_
  have hp : PlOk (ar, ats, tbs) := hp
  have hl : ats.length ≤ 50 := hp.at_.1
  have hu := u1 hr
  have nd := scAts.nd
  conv => arg 5; whnf
  show HT _ _ _ [some (im (rPlan CPl CT) (ar, ats, tbs)), none] _
  refine HT.ret (EV.castO (LV.ev (LV.lcL0 (j := 1) (S := rP rS (rL rS)) (fun n : Str => (n, valsOf ats n)) (IV.keys (EV.fld (fs := planF CT) (x := (ar, ats, tbs)) Q.c (EV.var 0) rfl Q.nAt) (kvS_ks ats)) nd (by show blkC ["self", "name"] (defScope (sPl 1)) _ [("name", 1)] = true; decide +kernel) (by rw [List.length_map]; omega) (fun b' i n s H0 C cl fp hb hn => ?_) (fun _ _ _ _ _ => pg_name nd rfl (Or.inl rfl)))) (ats_back hp.atn)) rfl
  exact EV.pair (R := rS) (S := rL rS) (AV.cons (EV.var 1) (AV.cons (EV.fz (EV.listLK Lis.lk (AV.cons (EV.getK (k := Sum.inr n) Dic.lk hu (EV.fld (fs := planF CT) (x := (ar, ats, tbs)) Q.c (EV.var 0) rfl Q.nAt) (EV.var 1) (fun F v h => h) (vals_get (List.mem_of_getElem? hn))) AV.nil) T.lst)) AV.nil))
theorem scTbs : FnScope ["self"] ["self"] (defScope (sPl 2)) := ⟨rfl, rfl, rfl, by decide +kernel, rfl, by decide +kernel, by decide +kernel⟩
def spTbs (CPl CT : Addr) : Sp := spX (ι := Pl) (fun i => [mk (rPlan CPl CT) i]) (fun _ => True) (fun i => .ok (ow rS (tbns i)))
theorem ok_tbs {f : Addr} {fd : FuncData} (F : Fun K "tables" "Plan.tables" (sPl 2) f fd) (T : Tp K mg CP CU CT) (Q : Tpl K CPl) : FnOk P w K mg base (L2N.CX P w) 1 f fd ["self"] (spTbs CPl CT) := by
  refine fn_ok F scTbs (fun _ => rfl) fun ⟨ar, ats, tbs⟩ B cdv A' outer s H E hp hr _ => ?_
  conv => arg 5; whnf
  show HT _ _ _ [some (im (rPlan CPl CT) (ar, ats, tbs))] _
  exact HT.ret (EV.listK Dic.lk (AV.cons (EV.fld (fs := planF CT) (x := (ar, ats, tbs)) Q.c (EV.var 0) rfl Q.nTb) AV.nil) (kvS_ks tbs) T.lst) rfl
theorem cls_get {tbs : Tb} {n : Str} (h : n ∈ tbs.map (·.1)) : kget (kvS (tbs.map fun p => (p.1, clsN p.2))) (Sum.inr n) = some (clsN (dimsOfT tbs n)) := by
  rw [map_get, dims_kget h]; rfl
theorem scl_get {ats : At} {tbs : Tb} {n : Str} (h : n ∈ tbs.map (·.1)) : kget (kvS (tbs.map fun p => (p.1, scl ats p.2))) (Sum.inr n) = some (scl ats (dimsOfT tbs n)) := by
  rw [map_get, dims_kget h]; rfl
theorem scCls : FnScope ["self", "table"] ["self", "table"] (defScope (sPl 3)) := ⟨rfl, rfl, rfl, by decide +kernel, rfl, by decide +kernel, by decide +kernel⟩
def spCls (CPl CT CU : Addr) : Sp := spY (ι := Pl × Str) (fun i => [mk (rPlan CPl CT) i.1, mk rS i.2]) (fun i => i.2.length ≤ 1000) (fun i => knownN CU (tbns i.1) i.2 (.ok (ow rS (clsN (dimsOfT i.1.2.2 i.2)))))
theorem ok_cls {f : Addr} {fd : FuncData} (F : Fun K "classes" "Plan.classes" (sPl 3) f fd) (T : Tp K mg CP CU CT) (Q : Tpl K CPl) (TC : KnM P w K mg base 3 CPl "_check" ["self", "table"] (spCk CPl CT CU)) : FnOk P w K mg base (L2N.CX P w) 4 f fd ["self", "table"] (spCls CPl CT CU) := by
  refine fn_okY F scCls (fun _ => rfl) fun ⟨⟨ar, ats, tbs⟩, z⟩ B cdv A' outer s H E hp hr hE hF => ?_
  have hz : z.length ≤ 1000 := hp
  have hu := u1 hr
  have tk : L2N.Takes (cxOf (L2N.CX P w) P w K mg base ["self", "table"] "Plan.classes" (defScope (sPl 3)) f cdv A' outer s H E) (fun cls d _ H => E cls d H) := L2N.takes_of rfl rfl rfl rfl
  conv => arg 5; whnf
  show HT _ _ _ [some (im (rPlan CPl CT) (ar, ats, tbs)), some (im rS z)] _
  refine HT.chk (known := z ∈ tbs.map (·.1)) (fun hk => EV.methY (i := ((ar, ats, tbs), z)) TC hr tk (EV.var 0) (fun F v h => rObj.no h rfl) (AV.cons (EV.var 1) AV.nil) rfl hz (kn_ok hk) (fun C h => (kn_err h).elim) (fun C fs h => (kn_noF hk h).elim))
    (fun hk => EV.methY (i := ((ar, ats, tbs), z)) TC hr tk (EV.var 0) (fun F v h => rObj.no h rfl) (AV.cons (EV.var 1) AV.nil) rfl hz (fun s' h => (kn_no hk h).elim) (fun C h => (kn_err h).elim) (fun C fs h => knF hk h fun σ F H' d ⟨l', _, dd⟩ hd => hF CU _ (kn_unk hk) H' d dd.eb hd)) fun hk => ?_
  refine HT.ret (EV.listLK Lis.lk (AV.cons (EV.getK (k := Sum.inr z) Dic.lk hu (EV.fld (fs := planF CT) (x := (ar, ats, tbs)) Q.c (EV.var 0) rfl Q.nCl) (EV.var 1) (fun F v h => h) (cls_get hk)) AV.nil) T.lst) (kn_in hk)
theorem scDi : FnScope ["self", "table"] ["self", "table"] (defScope (sPl 4)) := ⟨rfl, rfl, rfl, by decide +kernel, rfl, by decide +kernel, by decide +kernel⟩
def spDi (CPl CT CU : Addr) : Sp := spY (ι := Pl × Str) (fun i => [mk (rPlan CPl CT) i.1, mk rS i.2]) (fun i => PlOk i.1 ∧ i.2.length ≤ 1000) (fun i => knownN CU (tbns i.1) i.2 (.ok (owP rS (rLK rS) (dimsOfT i.1.2.2 i.2))))
theorem ok_di {f : Addr} {fd : FuncData} (F : Fun K "dimensions" "Plan.dimensions" (sPl 4) f fd) (Q : Tpl K CPl) (TC : KnM P w K mg base 3 CPl "_check" ["self", "table"] (spCk CPl CT CU)) (T2 : Kn P w K mg base 1 "copied_dimensions" ["dimensions"] (spCD rDmL)) : FnOk P w K mg base (L2N.CX P w) 4 f fd ["self", "table"] (spDi CPl CT CU) := by
  refine fn_okY F scDi (fun _ => rfl) fun ⟨⟨ar, ats, tbs⟩, z⟩ B cdv A' outer s H E ⟨hp, hz⟩ hr hE hF => ?_
  have hz : z.length ≤ 1000 := hz
  have hp : PlOk (ar, ats, tbs) := hp
  have hu := u1 hr
  have tk : L2N.Takes (cxOf (L2N.CX P w) P w K mg base ["self", "table"] "Plan.dimensions" (defScope (sPl 4)) f cdv A' outer s H E) (fun cls d _ H => E cls d H) := L2N.takes_of rfl rfl rfl rfl
  conv => arg 5; whnf
  show HT _ _ _ [some (im (rPlan CPl CT) (ar, ats, tbs)), some (im rS z)] _
  refine HT.chk (known := z ∈ tbs.map (·.1)) (fun hk => EV.methY (i := ((ar, ats, tbs), z)) TC hr tk (EV.var 0) (fun F v h => rObj.no h rfl) (AV.cons (EV.var 1) AV.nil) rfl hz (kn_ok hk) (fun C h => (kn_err h).elim) (fun C fs h => (kn_noF hk h).elim))
    (fun hk => EV.methY (i := ((ar, ats, tbs), z)) TC hr tk (EV.var 0) (fun F v h => rObj.no h rfl) (AV.cons (EV.var 1) AV.nil) rfl hz (fun s' h => (kn_no hk h).elim) (fun C h => (kn_err h).elim) (fun C fs h => knF hk h fun σ F H' d ⟨l', _, dd⟩ hd => hF CU _ (kn_unk hk) H' d dd.eb hd)) fun hk => ?_
  exact HT.ret (EV.call (i := dimsOfT tbs z) T2 (hr.mono (by decide)) tk (AV.cons (EV.getK (k := Sum.inr z) Dic.lk hu (EV.fld (fs := planF CT) (x := (ar, ats, tbs)) Q.c (EV.var 0) rfl Q.nTb) (EV.var 1) (fun F v h => h) (dims_kget hk)) AV.nil) (hp.dims hk).1 rfl) (kn_in hk)
/-! _has_values, class_of -/
abbrev nHv : List Str := ["self", "values", "value", "name"]
theorem scHv : FnScope nHv ["self", "values"] (defScope (sPl 8)) := ⟨rfl, rfl, rfl, by decide +kernel, rfl, by decide +kernel, by decide +kernel⟩
def spHv (CPl CT : Addr) : Sp := spY (ι := Pl × List Str) (fun i => [mk (rPlan CPl CT) i.1, mk (rT rS) i.2]) (fun i => i.1.2.1.length ≤ 50) (fun i => .ok (im rB (hasB i.1.2.1 i.2)))
theorem ok_hv {f : Addr} {fd : FuncData} (F : Fun K "_has_values" "Plan._has_values" (sPl 8) f fd) (T : Tp K mg CP CU CT) (V : Tw mg) (Q : Tpl K CPl) : FnOk P w K mg base (L2N.CX P w) 1 f fd ["self", "values"] (spHv CPl CT) := by
  refine fn_okY F scHv (fun _ => rfl) fun ⟨⟨ar, ats, tbs⟩, vs⟩ B cdv A' outer s H E hp hr _ _ => ?_
  have hl : ats.length ≤ 50 := hp
  have hu := u1 hr
  have nd := scHv.nd
  have ekv : (kvS ats).length = ats.length := by unfold kvS; rw [List.length_map]
  conv => arg 5; whnf
  show HT _ _ _ [some (im (rPlan CPl CT) (ar, ats, tbs)), some (im (rT rS) vs), none, none] _
  refine HT.when (TV.neI (EV.lenT (AV.cons (EV.var 1) AV.nil) T.len) (EV.lenK Dic.lk (AV.cons (EV.fld (fs := planF CT) (x := (ar, ats, tbs)) Q.c (EV.var 0) rfl Q.nAt) AV.nil) T.len)) (fun h => HT.ret EV.bl ?_) (fun h => ?_)
  · show Ry.ok _ = Ry.ok _
    rw [ekv] at h
    unfold hasB
    rw [if_pos h]
  rw [ekv] at h
  have hlen : vs.length = (ats.map (·.1)).length := by
    rw [List.length_map]
    have : ((vs.length : Int) = (ats.length : Int)) := by simpa using h
    omega
  refine HT.ret (EV.all (AV.cons (EV.fz (LV.ev (LV.lc1 (own := [("value", 2), ("name", 3)]) (U := rB) (Tg.pair (R := rS) (S := rS) 2 3 (by decide) (by decide) fun _ _ _ _ _ => pg_tup rfl (pgs_cons (pg_name nd rfl (Or.inl rfl)) (pgs_cons (pg_name nd rfl (Or.inl rfl)) pgs_nil))) (fun p : Str × Str => decide (p.1 ∈ valsOf ats p.2)) (IV.zipK (AV.cons (EV.var 1) (AV.cons (EV.fld (fs := planF CT) (x := (ar, ats, tbs)) Q.c (EV.var 0) rfl Q.nAt) AV.nil)) (kvS_ks ats) hlen V.zip) nd (by show blkC nHv (defScope (sPl 8)) _ [("value", 2), ("name", 3)] = true; decide +kernel) (by
      rw [List.length_zip]; rw [List.length_map] at hlen ⊢; omega) (fun b' i p s H0 C cl fp hb hp => ?_)))) AV.nil) T.all) ?_
  · obtain ⟨v, a⟩ := p
    have hz := (List.getElem?_zip_eq_some.mp hp).2
    exact EV.inF (x := v) (as := valsOf ats a) Flat.str Lis.lk (EV.var 2) (EV.getK (k := Sum.inr a) Dic.lk hu (EV.fld (fs := planF CT) (x := (ar, ats, tbs)) Q.c (EV.var 0) rfl Q.nAt) (EV.var 3) (fun F v h => h) (vals_get (List.mem_of_getElem? hz)))
  · show Ry.ok _ = Ry.ok _
    unfold hasB
    rw [h, if_neg (by decide)]
abbrev nCo : List Str := ["self", "table", "values", "number", "place", "groups", "size"]
theorem scCo : FnScope nCo ["self", "table", "values"] (defScope (sPl 5)) := ⟨rfl, rfl, rfl, by decide +kernel, rfl, by decide +kernel, by decide +kernel⟩
def coR (CU CR : Addr) (i : Pl × Str × List Str) : Ry := knownN CU (tbns i.1) i.2.1 (if hasB i.1.2.1 i.2.2 then .ok (im rI (clsNo i.1.2.1 i.2.2 (dimsOfT i.1.2.2 i.2.1))) else .err CR)
def spCo (CPl CT CU CR : Addr) : Sp := spY (ι := Pl × Str × List Str) (fun i => [mk (rPlan CPl CT) i.1, mk rS i.2.1, mk (rT rS) i.2.2]) (fun i => PlOk i.1 ∧ i.2.1.length ≤ 1000) (coR CU CR)
theorem ok_co {f : Addr} {fd : FuncData} (F : Fun K "class_of" "Plan.class_of" (sPl 5) f fd) (Q : Tpl K CPl) (TR : ErrC K mg "InvalidRecord" CR) (TC : KnM P w K mg base 3 CPl "_check" ["self", "table"] (spCk CPl CT CU)) (TH : KnM P w K mg base 1 CPl "_has_values" ["self", "values"] (spHv CPl CT)) : FnOk P w K mg base (L2N.CX P w) 4 f fd ["self", "table", "values"] (spCo CPl CT CU CR) := by
  refine fn_okY F scCo (fun _ => rfl) fun ⟨⟨ar, ats, tbs⟩, z, vs⟩ B cdv A' outer s H E ⟨hp, hz⟩ hr hE hF => ?_
  have hz : z.length ≤ 1000 := hz
  have hp : PlOk (ar, ats, tbs) := hp
  have hu := u1 hr
  have nd := scCo.nd
  have tk : L2N.Takes (cxOf (L2N.CX P w) P w K mg base nCo "Plan.class_of" (defScope (sPl 5)) f cdv A' outer s H E) (fun cls d _ H => E cls d H) := L2N.takes_of rfl rfl rfl rfl
  conv => arg 5; whnf
  show HT _ _ _ [some (im (rPlan CPl CT) (ar, ats, tbs)), some (im rS z), some (im (rT rS) vs), none, none, none, none] _
  refine HT.chk (known := z ∈ tbs.map (·.1)) (fun hk => EV.methY (i := ((ar, ats, tbs), z)) TC hr tk (EV.var 0) (fun F v h => rObj.no h rfl) (AV.cons (EV.var 1) AV.nil) rfl hz (kn_ok hk) (fun C h => (kn_err h).elim) (fun C fs h => (kn_noF hk h).elim))
    (fun hk => EV.methY (i := ((ar, ats, tbs), z)) TC hr tk (EV.var 0) (fun F v h => rObj.no h rfl) (AV.cons (EV.var 1) AV.nil) rfl hz (fun s' h => (kn_no hk h).elim) (fun C h => (kn_err h).elim) (fun C fs h => knF hk h fun σ F H' d ⟨l', _, dd⟩ hd => hF CU _ (kn_unk hk) H' d dd.eb hd)) fun hk => ?_
  refine HT.when (TV.not (TV.val (EV.methY (i := ((ar, ats, tbs), vs)) TH (hr.mono (by decide)) tk (EV.var 0) (fun F v h => rObj.no h rfl) (AV.cons (EV.var 2) AV.nil) rfl hp.at_.1 (fun s' h => by cases h; rfl) (fun C h => nomatch h) (fun C fs h => nomatch h)))) (fun h => ?_) (fun h => ?_)
  · refine HT.raise TR tk (EV.strAny EV.str) fun σ F H' ⟨l', _, d⟩ => hE CR ?_ H' d.eb
    show knownN CU _ z _ = _
    rw [kn_in hk, if_neg (by simpa using h)]
  have hv : hasB ats vs = true := by simpa using h
  obtain ⟨hd, hne, hall⟩ := hp.dims hk
  have hall : ∀ p ∈ dimsOfT tbs z, p.1 ∈ ats.map (·.1) ∧ GpOk p.2 ∧ groupB (valsOf ats p.1) p.2 = true := hall
  refine HT.set 3 EV.int ?_ nd
  refine HT.for (IV.lst Lis.lk (EV.getK (k := Sum.inr z) Dic.lk hu (EV.fld (fs := planF CT) (x := (ar, ats, tbs)) Q.c (EV.var 0) rfl Q.nSc) (EV.var 1) (fun F v h => h) (scl_get hk))) (fun k Γ => Γ = [some (im (rPlan CPl CT) (ar, ats, tbs)), some (im rS z), some (im (rT rS) vs), some (im rI (clsNo ats vs ((dimsOfT tbs z).take k))), none, none, none]) rfl ?_ ?_ (passes_of rfl)
  · rintro b' i y Γ' hb hi ⟨x, hx, rfl⟩ rfl
    unfold scl at hx
    rw [List.getElem?_map] at hx
    obtain ⟨⟨a, g⟩, hx2, e0⟩ := Option.map_eq_some_iff.mp hx
    have hx2 : (dimsOfT tbs z)[i]? = some (a, g) := hx2
    have e0 : (posOf ats a, gnum g, (g.length : Int)) = x := e0
    subst e0
    obtain ⟨ha, hg, hgb⟩ := hall _ (List.mem_of_getElem? hx2)
    have hper := group_perm hgb
    have hgn : g.flatten.Nodup := hper.nodup_iff.mpr (hp.vals ha).1
    obtain ⟨v, hv1, hv2⟩ := has_val hv ha
    have hv1 : vs[posN ats a]? = some v := hv1
    have hvf : v ∈ g.flatten := hper.mem_iff.mpr hv2
    refine ⟨_, GV.tri (R := rI) (S := rDK rI) (T := rI) (c := (posOf ats a, gnum g, (g.length : Int))) (GsV.cons (GV.name 4 nd) (GsV.cons (GV.name 5 nd) (GsV.cons (GV.name 6 nd) GsV.nil))), ?_⟩
    refine HT.set 3 (EV.add (EV.mul (EV.var 3) (EV.var 6) (.inr ?_)) (EV.getK (k := Sum.inr v) Dic.lk hu (EV.var 5) (EV.ixT (EV.var 2) (EV.var 4) (by rw [posOf_eq]; exact atI_nat hv1)) (fun F v h => h) (gnum_get hgn hvf))) ?_ nd
    · have : g.length ≤ 50 := hg.1
      show -(2 ^ 64) < (g.length : Int) ∧ (g.length : Int) < 2 ^ 64
      omega
    have e : clsNo ats vs ((dimsOfT tbs z).take i) * (g.length : Int) + grpOf g v = clsNo ats vs ((dimsOfT tbs z).take (i + 1)) := by
      rw [List.take_add_one, hx2]
      unfold clsNo
      rw [List.foldl_append]
      show _ = _ * (g.length : Int) + grpOf g (vs.getD (posN ats a) "")
      rw [List.getD_eq_getElem?_getD, hv1]; rfl
    rw [show clsNo ats vs ((dimsOfT tbs z).take i) * ((a, g).2.length : Int) + grpOf g v = clsNo ats vs ((dimsOfT tbs z).take (i + 1)) from e]
    exact HT.done (by repeat (first | exact Le.nil | apply Le.keep | apply Le.drop)) rfl
  · rintro Γ' rfl
    rw [show (scl ats (dimsOfT tbs z)).length = (dimsOfT tbs z).length by unfold scl; rw [List.length_map], List.take_length]
    refine HT.ret (EV.var 3) ?_
    show knownN CU _ z _ = _
    rw [kn_in hk, if_pos hv]
end
end K2

namespace K2
open PySem L2 Evl Lg PyProof.Rows
theorem fold_tb {β : Type} (tbs : Tb) (f : Dm → β) (h : (tbs.map (·.1)).Nodup) : (tbs.map (·.1)).foldl (fun kvs n => kput kvs (Sum.inr n) (f (dimsOfT tbs n))) [] = kvS (tbs.map fun p => (p.1, f p.2)) := by
  have e := kfold_new (fun n : Str => n) (fun n => f (dimsOfT tbs n)) (tbs.map (·.1)) [] (by rw [List.map_id']; exact h)
  rw [show kvS ([] : List (Str × β)) = [] from rfl, List.nil_append] at e
  rw [e, List.map_map]
  congr 1
  refine List.map_congr_left fun p hp => ?_
  show (p.1, f (dimsOfT tbs p.1)) = (p.1, f p.2)
  rw [dims_get tbs h p hp]
def planB (i : Pl) : Bool := treeB i.1 && (attrsB i.2.1 && tablesB i.2.1 i.2.2)
section
variable {P : Program} {w : World} {K : PySem.W.Frag} {mg : Str → Option Value} {base : Heap} {CP CU CT CPl CR CB : Addr}
abbrev nPI : List Str := ["self", "areas", "attributes", "tables", "table"]
theorem scPI : FnScope nPI ["self", "areas", "attributes", "tables"] (defScope (sPl 0)) := ⟨rfl, rfl, rfl, by decide +kernel, rfl, by decide +kernel, by decide +kernel⟩
def spPI (CP CPl CT : Addr) : Sp := spI CPl (ι := Pl) (fun i => [mk (rL rArea) i.1, mk (rL (rP rS (rL rS))) i.2.1, mk (rL (rP rS rDmP)) i.2.2]) (fun i => AreasOk i.1 ∧ AtOk i.2.1 ∧ TbOk i.2.2 ∧ ∀ p ∈ i.2.2, PrOk p.2) (rPlan CPl CT) (fun i => if planB i then .ok i else .error CP)
theorem ok_planInit {f : Addr} {fd : FuncData} (F : Fun K "__init__" "Plan.__init__" (sPl 0) f fd) (T : Tp K mg CP CU CT) (Q : Tpl K CPl) (TI : KnI P w K mg base 4 CT "AreaTree" ["self", "areas"] (spTI CP CT)) (T1 : Kn P w K mg base 3 "checked_attributes" ["attributes"] (spCA CP)) (T2 : Kn P w K mg base 3 "checked_tables" ["attributes", "tables"] (spCT CP)) (T3 : Kn P w K mg base 2 "class_names" ["dimensions"] spCN) (T4 : KnM P w K mg base 2 CPl "_scale" ["self", "table"] (spSc CPl CT)) : FnOk P w K mg base (L2N.CX P w) 6 f fd ["self", "areas", "attributes", "tables"] (spPI CP CPl CT) := by
  refine fn_init F scPI (fun _ => rfl) fun ⟨ar, ats, tbs⟩ B a cdv A' outer s H E ⟨hA, hAt, hTb, hPr⟩ hr hE => ?_
  have hA : AreasOk ar := hA
  have hAt : AtOk ats := hAt
  have hTb : TbOk tbs := hTb
  have hPr : ∀ p ∈ tbs, PrOk p.2 := hPr
  have hu := u1 hr
  have nd := scPI.nd
  have tk : L2N.Takes (cxOf (L2N.CX P w) P w K mg base nPI "Plan.__init__" (defScope (sPl 0)) f cdv A' outer s H E) (fun cls d _ H => E cls d H) := L2N.takes_of rfl rfl rfl rfl
  conv => arg 5; whnf
  show HT _ _ _ [some (ob CPl a []), some (im (rL rArea) ar), some (im (rL (rP rS (rL rS))) ats), some (im (rL (rP rS rDmP)) tbs), none] _
  have bad : planB (ar, ats, tbs) = false → (if planB (ar, ats, tbs) then Except.ok (ar, ats, tbs) else Except.error CP : Except Addr Pl) = Except.error CP := fun h => by rw [h]; rfl
  by_cases hT : treeB ar = true
  case neg =>
    have hri : (if treeB ar then Except.ok ar else Except.error CP) = (Except.error CP : Except Addr Ar) := if_neg hT
    refine HT.fldNo 0 (EV.makeG (k := 4) (i := ar) (s := noS) TI hr tk (AV.cons (EV.var 1) AV.nil) hA (fun y' h => nomatch (hri.symm.trans h)) (fun C h => ?_))
    cases hri.symm.trans h
    exact fun σ F H' ⟨l', _, d⟩ => hE CP (bad (by unfold planB; rw [show treeB (ar, ats, tbs).1 = false by simpa using hT]; rfl)) H' d.eb
  have hri : (if treeB ar then Except.ok ar else Except.error CP) = (Except.ok ar : Except Addr Ar) := if_pos hT
  refine HT.fld (S := rTree CT) (y := ar) Q.c 0 rfl (EV.make (k := 4) (i := ar) (y := ar) TI hr tk (AV.cons (EV.var 1) AV.nil) hA (fun y' h => by cases hri.symm.trans h; rfl) (fun C h => nomatch (hri.symm.trans h))) Q.nAr (by decide) ?_
  by_cases hB : attrsB ats = true
  case neg =>
    have hres : (if attrsB ats then Rs.ok (im (rDK (rLK rS)) (kvS ats)) else Rs.err CP) = Rs.err CP := if_neg hB
    refine HT.fldNo 0 (EV.callR (i := ats) T1 (hr.mono (by decide)) tk (AV.cons (EV.var 2) AV.nil) hAt (fun s' h => nomatch (hres.symm.trans h)) (fun C h => ?_))
    cases hres.symm.trans h
    exact fun σ F H' ⟨l', _, d⟩ => hE CP (bad (by unfold planB; rw [show attrsB (ar, ats, tbs).2.1 = false by simpa using hB]; simp)) H' d.eb
  have hres : (if attrsB ats then Rs.ok (im (rDK (rLK rS)) (kvS ats)) else Rs.err CP) = Rs.ok (im (rDK (rLK rS)) (kvS ats)) := if_pos hB
  refine HT.fld Q.c 0 rfl (EV.call (i := ats) T1 (hr.mono (by decide)) tk (AV.cons (EV.var 2) AV.nil) hAt hres) Q.nAt (by show 1 < 1000; decide) ?_
  by_cases hC : tablesB ats tbs = true
  case neg =>
    have hres2 : (if tablesB ats tbs then Rs.ok (im (rDK rDmL) (kvS tbs)) else Rs.err CP) = Rs.err CP := if_neg hC
    refine HT.fldNo 0 (EV.callR (i := (ats, tbs)) T2 (hr.mono (by decide)) tk (AV.cons (EV.fldOb Q.c 0 rfl rfl Q.nAt) (AV.cons (EV.var 3) AV.nil)) ⟨hAt, hTb⟩ (fun s' h => nomatch (hres2.symm.trans h)) (fun C h => ?_))
    cases hres2.symm.trans h
    exact fun σ F H' ⟨l', _, d⟩ => hE CP (bad (by unfold planB; rw [show tablesB (ar, ats, tbs).2.1 (ar, ats, tbs).2.2 = false by simpa using hC]; simp)) H' d.eb
  have hres2 : (if tablesB ats tbs then Rs.ok (im (rDK rDmL) (kvS tbs)) else Rs.err CP) = Rs.ok (im (rDK rDmL) (kvS tbs)) := if_pos hC
  refine HT.fld Q.c 0 rfl (EV.call (i := (ats, tbs)) T2 (hr.mono (by decide)) tk (AV.cons (EV.fldOb Q.c 0 rfl rfl Q.nAt) (AV.cons (EV.var 3) AV.nil)) ⟨hAt, hTb⟩ hres2) Q.nTb (by show 2 < 1000; decide) ?_
  have hp : PlOk (ar, ats, tbs) := ⟨hAt, hTb, hB, hC⟩
  have htn : (tbs.map (·.1)).Nodup := hp.tbn
  have hl := hTb.1
  refine HT.fld (S := rDK (rLK rS)) (y := (tbs.map (·.1)).foldl (fun kvs n => kput kvs (Sum.inr n) (clsN (dimsOfT tbs n))) []) Q.c 0 rfl (EV.lkD (LV.ev (LV.dcL0 (j := 4) (S := rLK rS) (fun n : Str => Sum.inr n) (fun n => clsN (dimsOfT tbs n)) (IV.keys (EV.fldOb Q.c 0 rfl rfl Q.nTb) (kvS_ks tbs)) nd (by show blkC nPI (defScope (sPl 0)) _ [("table", 4)] = true; decide +kernel) (by rw [List.length_map]; omega) (fun b' i n s H0 C cl fp hb hn => ⟨_, rS, n, EV.var 4, fun F v h => h⟩) (fun b' i n s H0 C cl fp hb hn => ?_) (fun _ _ _ _ _ => pg_name nd rfl (Or.inl rfl))))) Q.nCl (by show 3 < 1000; decide) ?_
  · have hk := List.mem_of_getElem? hn
    obtain ⟨d1, d2, d3⟩ := hp.dims hk
    exact EV.call (i := dimsOfT tbs n) (W := fun _ _ _ _ => False) T3 (hr.mono (by decide)) takesN0 (AV.cons (EV.getK (k := Sum.inr n) Dic.lk hu (EV.fldOb Q.c 0 rfl rfl Q.nTb) (EV.var 4) (fun F v h => h) (dims_kget hk)) AV.nil) ⟨d2, d1, hPr _ (dims_mem hk)⟩ rfl
  rw [fold_tb tbs clsN htn]
  show HT _ _ _ [some (ob CPl a (planF4 CT (ar, ats, tbs))), some (im (rL rArea) ar), some (im (rL (rP rS (rL rS))) ats), some (im (rL (rP rS rDmP)) tbs), none] _
  refine HT.fld (S := rDK (rLK rScl)) (y := (tbs.map (·.1)).foldl (fun kvs n => kput kvs (Sum.inr n) (scl ats (dimsOfT tbs n))) []) Q.c 0 rfl (EV.lkD (LV.ev (LV.dcL0 (j := 4) (S := rLK rScl) (fun n : Str => Sum.inr n) (fun n => scl ats (dimsOfT tbs n)) (IV.keys (EV.fldOb Q.c 0 rfl rfl Q.nTb) (kvS_ks tbs)) nd (by show blkC nPI (defScope (sPl 0)) _ [("table", 4)] = true; decide +kernel) (by rw [List.length_map]; omega) (fun b' i n s H0 C cl fp hb hn => ⟨_, rS, n, EV.var 4, fun F v h => h⟩) (fun b' i n s H0 C cl fp hb hn => ?_) (fun _ _ _ _ _ => pg_name nd rfl (Or.inl rfl))))) Q.nSc (by show 4 < 1000; decide) ?_
  · have hk := List.mem_of_getElem? hn
    obtain ⟨d1, d2, d3⟩ := hp.dims hk
    refine EV.lendG (s := ob CPl a (planF4 CT (ar, ats, tbs))) (R := rPart CPl CT) (a := (ar, ats, tbs)) 0 rfl Frz.ob (NoG.lk nf_N (NoG.tri nf_N NoG.int (NoG.dk nf_N NoG.int) NoG.int)) ?_
    exact EV.methY (i := ((ar, ats, tbs), n)) (W := fun _ _ _ _ => False) T4 (hr.mono (by decide)) takesN0 (EV.var 0) (fun F v h => rObj.no h rfl) (AV.cons (EV.var 4) AV.nil) rfl ⟨hp.atn, hAt.1, hk, d1, fun p hpp => (d3 p hpp).1⟩ (fun s' h => by cases h; rfl) (fun C h => nomatch h) (fun C fs h => nomatch h)
  rw [fold_tb tbs (scl ats) htn]
  refine HT.nil ⟨(ar, ats, tbs), _, if_pos ?_, rfl, rfl⟩
  unfold planB
  rw [show treeB (ar, ats, tbs).1 = true from hT, show attrsB (ar, ats, tbs).2.1 = true from hB, show tablesB (ar, ats, tbs).2.1 (ar, ats, tbs).2.2 = true from hC]; rfl
end
end K2

namespace K2
open PySem L2 Evl Lg PyProof.Rows
abbrev sCell : Stmt := topS 28
abbrev sRich : Stmt := topS 30
abbrev sAA : Stmt := topS 31
abbrev sAG : Stmt := topS 32
abbrev sAT : Stmt := topS 33
abbrev sLC : Stmt := topS 34
abbrev sBr : Stmt := topS 35
abbrev sLaw : Stmt := topS 36
def cellV (ns : List Int) (k : Int) : Int := if k < ns.length then ns.getD k.toNat 0 else 0
def absV' (i : Int) : Int := if i < 0 then -i else i
def richV (c0 : Int) : Int :=
  let c := absV' c0
  if 1000000000000000000 ≤ c then c else
    let m := (c * 48271 + 7) % 2147483647
    m * 1000003 * 2147483629 + (m * 69621 + c) % 2147483629 * 1000003 + m / 11
def firstL : At := [("age", ["kid", "mid", "old"]), ("sex", ["f", "m"]), ("job", ["no", "yes"]), ("eye", ["blue", "gray", "red", "x1"])]
def anyA (m r : Nat) : At := (List.range m).map fun k => firstL.getD ((k + r) % 4) ("", [])
def anyAts (n : Int) : At := anyA (1 + n % 4).toNat (n / 4 % 4).toNat
theorem gd {l : List Int} {j : Nat} (h : j < l.length) : l[j]? = some (l.getD j 0) := by
  rw [List.getD_eq_getElem?_getD, List.getElem?_eq_getElem h]; rfl
theorem at_i {α : Type} {l : List α} {k : Int} (d : α) (h0 : 0 ≤ k) (h1 : k < l.length) : atI l k = some (l.getD k.toNat d) := by
  have e : ((k.toNat : Nat) : Int) = k := by omega
  have hx : l[k.toNat]? = some (l.getD k.toNat d) := by
    rw [List.getD_eq_getElem?_getD, List.getElem?_eq_getElem (by omega)]; rfl
  have q := atI_nat hx
  rwa [e] at q
theorem set_flat (v : Str) : ∀ (g : Gp) (m : Nat) (x : List Str), g[m]? = some x → (g.set m (x ++ [v])).flatten.Perm (g.flatten ++ [v])
  | [], m, x, h => by simp at h
  | y :: g, 0, x, h => by
    have h : y = x := by simpa using h
    subst h
    show ((y ++ [v]) ++ g.flatten).Perm ((y ++ g.flatten) ++ [v])
    rw [List.append_assoc, List.append_assoc]
    exact List.Perm.append_left y List.perm_append_comm
  | y :: g, m + 1, x, h => by
    have h : g[m]? = some x := by simpa using h
    show (y ++ (g.set m (x ++ [v])).flatten).Perm ((y ++ g.flatten) ++ [v])
    rw [List.append_assoc]
    exact List.Perm.append_left y (set_flat v g m x h)
section
variable {P : Program} {w : World} {K : PySem.W.Frag} {mg : Str → Option Value} {base : Heap} {CP CU CT CPl CR CB : Addr}
theorem at_sc {ns : List Int} {k : Int} (h0 : 0 ≤ k) (h1 : k < ns.length) : atI ns k = some (cellV ns k) := by
  have e : ((k.toNat : Nat) : Int) = k := by omega
  have := gd (l := ns) (j := k.toNat) (by omega)
  have q := atI_nat this
  rw [e] at q
  unfold cellV
  rw [if_pos h1]; exact q
theorem scCell : FnScope ["script", "k"] ["script", "k"] (defScope sCell) := ⟨rfl, rfl, rfl, by decide +kernel, rfl, by decide +kernel, by decide +kernel⟩
def spCell (K : PySem.W.Frag) : Sp := spX (ι := List Int × Int) (fun i => [mk (rSc K) i.1, mk rI i.2]) (fun i => 0 ≤ i.2) (fun i => .ok (im rI (cellV i.1 i.2)))
theorem ok_cell {f : Addr} {fd : FuncData} (F : Fun K "_law_cell" "_law_cell" sCell f fd) (T : Tp K mg CP CU CT) : FnOk P w K mg base (L2N.CX P w) 1 f fd ["script", "k"] (spCell K) := by
  refine fn_ok F scCell (fun _ => rfl) fun ⟨ns, k⟩ B cdv A' outer s H E h0 hr hE => ?_
  have h0 : 0 ≤ k := h0
  conv => arg 5; whnf
  show HT _ _ _ [some (im (rSc K) ns), some (im rI k)] _
  refine HT.when (TV.lt (EV.var 1) (EV.lenSc (AV.cons (EV.var 0) AV.nil) T.len)) (fun h => ?_) (fun h => ?_)
  · exact HT.ret (EV.ixSc (EV.var 0) (EV.var 1) (at_sc h0 (by simpa using h))) rfl
  · refine HT.ret EV.int ?_
    show Rs.ok _ = Rs.ok _
    unfold cellV
    rw [if_neg (by simpa using h)]
theorem scRich : FnScope ["cell", "mixed"] ["cell"] (defScope sRich) := ⟨rfl, rfl, rfl, by decide +kernel, rfl, by decide +kernel, by decide +kernel⟩
def spRich : Sp := spX (ι := Int) (fun i => [mk rI i]) (fun _ => True) (fun i => .ok (im rI (richV i)))
theorem ok_rich {f : Addr} {fd : FuncData} (F : Fun K "_law_rich" "_law_rich" sRich f fd) (T : Tp K mg CP CU CT) : FnOk P w K mg base (L2N.CX P w) 1 f fd ["cell"] spRich := by
  refine fn_ok F scRich (fun _ => rfl) fun c B cdv A' outer s H E h0 hr hE => ?_
  have nd := scRich.nd
  conv => arg 5; whnf
  show HT _ _ _ [some (im rI c), none] _
  refine HT.set 0 (EV.abs (AV.cons (EV.var 0) AV.nil) T.abs) ?_ nd
  refine HT.when (TV.ge (EV.var 0) EV.int) (fun h => HT.ret (EV.var 0) ?_) (fun h => ?_)
  · show Rs.ok (im rI (richV c)) = Rs.ok (im rI (absV' c))
    unfold richV
    dsimp only
    rw [if_pos (show 1000000000000000000 ≤ absV' c from of_decide_eq_true h)]
  refine HT.set 1 (EV.mod (EV.toInt (AV.cons (EV.add (EV.mul (EV.var 0) EV.int (.inr (by decide))) EV.int) AV.nil) T.int) EV.int (by decide)) ?_ nd
  refine HT.ret (EV.add (EV.add (EV.mul (EV.mul (EV.var 1) EV.int (.inr (by decide))) EV.int (.inr (by decide))) (EV.mul (EV.mod (EV.toInt (AV.cons (EV.add (EV.mul (EV.var 1) EV.int (.inr (by decide))) (EV.var 0)) AV.nil) T.int) EV.int (by decide)) EV.int (.inr (by decide)))) (EV.fdiv (EV.var 1) EV.int (by constructor <;> decide))) ?_
  show Rs.ok (im rI (richV c)) = Rs.ok _
  unfold richV
  dsimp only
  rw [if_neg (show ¬ 1000000000000000000 ≤ absV' c from of_decide_eq_false h)]
  rfl
theorem scAA : FnScope ["number", "first", "found", "k"] ["number"] (defScope sAA) := ⟨rfl, rfl, rfl, by decide +kernel, rfl, by decide +kernel, by decide +kernel⟩
def spAA : Sp := spX (ι := Int) (fun i => [mk rI i]) (fun _ => True) (fun i => .ok (im (rL (rP rS (rL rS))) (anyAts i)))
theorem ok_aa {f : Addr} {fd : FuncData} (F : Fun K "_law_any_attributes" "_law_any_attributes" sAA f fd) (T : Tp K mg CP CU CT) : FnOk P w K mg base (L2N.CX P w) 1 f fd ["number"] spAA := by
  refine fn_okq F scAA (fun _ => rfl) fun n B cdv A' outer s H E h0 hr hE => ?_
  have nd := scAA.nd
  conv => arg 5; whnf
  show Hq _ _ _ [some (im rI n), none, none, none] _
  refine Hq.set 1 (Ev1.l4 (R := rP rS (rL rS)) (x := ("age", ["kid", "mid", "old"])) (x2 := ("sex", ["f", "m"])) (x3 := ("job", ["no", "yes"])) (x4 := ("eye", ["blue", "gray", "red", "x1"])) (Ev1.pr (R := rS) (S := rL rS) Ev1.str (Ev1.l3 Ev1.str Ev1.str Ev1.str)) (Ev1.pr (R := rS) (S := rL rS) Ev1.str (Ev1.l2 Ev1.str Ev1.str)) (Ev1.pr (R := rS) (S := rL rS) Ev1.str (Ev1.l2 Ev1.str Ev1.str)) (Ev1.pr (R := rS) (S := rL rS) Ev1.str (Ev1.l4 Ev1.str Ev1.str Ev1.str Ev1.str))) ?_ nd
  refine Hq.mk ?_
  show HT _ _ _ [some (im rI n), some (im (rL (rP rS (rL rS))) firstL), none, none] _
  refine HT.set 2 (EV.lst (R := rP rS (rL rS)) (as := []) AV.nil rfl (by decide)) ?_ nd
  refine HT.for (IV.rng1 (AV.cons (EV.add EV.int (EV.mod (EV.toInt (AV.cons (EV.var 0) AV.nil) T.int) EV.int (by decide))) AV.nil) (by omega) T.rng) (fun k Γ => Γ = [some (im rI n), some (im (rL (rP rS (rL rS))) firstL), some (ow (rP rS (rL rS)) (anyA k (n / 4 % 4).toNat)), none]) rfl ?_ ?_ (passes_of rfl)
  · rintro b' i y Γ' hb hi rfl rfl
    have hi4 : i < 4 := by omega
    have n4 : (firstL.length : Int) = 4 := rfl
    refine ⟨_, GV.name 3 nd, ?_⟩
    refine HT.append 2 rfl (EV.ixL (EV.var 1) (EV.mod (EV.add (EV.var 3) (EV.toInt (AV.cons (EV.fdiv (EV.var 0) EV.int (by constructor <;> decide)) AV.nil) T.int)) EV.int (by decide)) (at_i (("", []) : Str × List Str) (by omega) (by omega))) (by
      unfold anyA
      rw [List.length_map, List.length_range]; omega) ?_
    have e : anyA i (n / 4 % 4).toNat ++ [firstL.getD (((i : Int) + n / 4) % 4).toNat ("", [])] = anyA (i + 1) (n / 4 % 4).toNat := by
      unfold anyA
      rw [List.range_succ, List.map_append]
      congr 2
      show firstL.getD _ _ = firstL.getD _ _
      congr 1
      omega
    rw [e]
    exact HT.done (by repeat (first | exact Le.nil | apply Le.keep | apply Le.drop)) rfl
  · rintro Γ' rfl
    refine HT.frz 2 rfl ?_
    exact HT.ret (EV.var 2) rfl
theorem ixN_in {n : Nat} {k : Int} (h0 : 0 ≤ k) (h1 : k < n) : ixN n k = some k.toNat := by
  unfold ixN
  rw [if_pos h0, if_pos h1]
theorem scAG : FnScope ["values", "number", "groups", "value", "at"] ["values", "number"] (defScope sAG) := ⟨rfl, rfl, rfl, by decide +kernel, rfl, by decide +kernel, by decide +kernel⟩
def GpFor (vs : List Str) (g : Gp) : Prop := g.flatten.Perm vs ∧ ∀ x ∈ g, x ≠ []
def spAG : Sp := spR (ι := List Str × Int) (fun i => [mk (rL rS) i.1, mk rI i.2]) (fun i => i.1.length ≤ 50) (fun i s => ∃ g : Gp, GpFor i.1 g ∧ s = im (rL (rL rS)) g)
theorem gp_len {vs : List Str} {g : Gp} (h : GpFor vs g) : g.length ≤ vs.length := by
  rw [← h.1.length_eq]
  have h2 := h.2
  clear h
  induction g with
  | nil => exact Nat.zero_le _
  | cons x g ih =>
    rw [List.flatten_cons, List.length_append, List.length_cons]
    have h1 := ih fun y hy => h2 y (List.mem_cons_of_mem _ hy)
    have h3 : x ≠ [] := h2 x List.mem_cons_self
    have h4 : 0 < x.length := List.length_pos_iff.mpr h3
    omega
theorem ok_ag {f : Addr} {fd : FuncData} (F : Fun K "_law_any_grouping" "_law_any_grouping" sAG f fd) (T : Tp K mg CP CU CT) : FnOk P w K mg base (L2N.CX P w) 1 f fd ["values", "number"] spAG := by
  refine fn_okR F scAG (fun _ => rfl) fun ⟨vs, n⟩ B cdv A' outer s H E hl hr => ?_
  have hl : vs.length ≤ 50 := hl
  have nd := scAG.nd
  conv => arg 5; whnf
  show HT _ _ _ [some (im (rL rS) vs), some (im rI n), none, none, none] _
  refine HT.set 2 (EV.lst (R := rL rS) (as := []) AV.nil rfl (by decide)) ?_ nd
  refine HT.for (IV.list (EV.var 0)) (fun k Γ => ∃ (m : Int) (g : Gp), Γ = [some (im (rL rS) vs), some (im rI m), some (ow (rL rS) g), none, none] ∧ GpFor (vs.take k) g) ⟨n, [], rfl, ⟨List.Perm.refl _, fun _ h => nomatch h⟩⟩ ?_ ?_ (passes_of rfl)
  · rintro b' i y Γ' hb hi ⟨v, hx, rfl⟩ ⟨m, g, rfl, hg⟩
    have hx : vs[i]? = some v := hx
    have gl := gp_len hg
    rw [List.length_take] at gl
    have ht1 : vs.take (i + 1) = vs.take i ++ [v] := by rw [List.take_add_one, hx]; rfl
    refine ⟨_, GV.name 3 nd, ?_⟩
    refine HT.set 4 (EV.mod (EV.toInt (AV.cons (EV.var 1) AV.nil) T.int) (EV.add (EV.lenOw 2 rfl T.len) EV.int) (by omega)) ?_ nd
    refine HT.set 1 (EV.fdiv (EV.var 1) EV.int (by constructor <;> decide)) ?_ nd
    have h0 : 0 ≤ m % ((g.length : Int) + 1) := Int.emod_nonneg _ (by omega)
    have h1 : m % ((g.length : Int) + 1) < (g.length : Int) + 1 := Int.emod_lt_of_pos _ (by omega)
    generalize m % ((g.length : Int) + 1) = a at h0 h1
    refine HT.ite (TV.eqI (EV.var 4) (EV.lenOw 2 rfl T.len)) (fun h => ?_) (fun h => ?_)
    · refine HT.append 2 rfl (EV.fz (EV.lst (R := rS) (as := [v]) (AV.cons (EV.var 3) AV.nil) rfl (by show 1 ≤ 1000; decide))) (by omega) ?_
      refine HT.nil (HT.done (by repeat (first | exact Le.nil | apply Le.keep | apply Le.drop)) ⟨m / 5, g ++ [[v]], rfl, ?_, ?_⟩)
      · rw [List.flatten_append, ht1]
        show (g.flatten ++ [v]).Perm _
        exact List.Perm.append_right _ hg.1
      · intro x hx
        rcases List.mem_append.mp hx with q | q
        · exact hg.2 x q
        · rw [List.mem_singleton.mp q]; exact fun z => nomatch z
    · have h2 : a < (g.length : Int) := by
        have : ¬ a = (g.length : Int) := of_decide_eq_false h
        omega
      have hgx : g[a.toNat]? = some (g.getD a.toNat []) := by
        rw [List.getD_eq_getElem?_getD, List.getElem?_eq_getElem (by omega)]; rfl
      generalize g.getD a.toNat [] = x at hgx
      have hxl : x.length ≤ 50 := by
        have e1 := hg.1.length_eq
        rw [List.length_take] at e1
        obtain ⟨l1, l2, e2⟩ := List.append_of_mem (List.mem_of_getElem? hgx)
        rw [e2, List.flatten_append, List.flatten_cons, List.length_append, List.length_append] at e1
        omega
      refine HT.setI (m := a.toNat) 2 rfl (EV.fz (EV.cat (EV.ixOw 2 rfl (EV.var 4) (by
        have := atI_nat hgx
        rwa [show ((a.toNat : Nat) : Int) = a by omega] at this)) (EV.fz (EV.lst (R := rS) (as := [v]) (AV.cons (EV.var 3) AV.nil) rfl (by show 1 ≤ 1000; decide))) (by show x.length + 1 ≤ _; omega))) (EV.var 4) (ixN_in h0 h2) ?_
      refine HT.nil (HT.done (by repeat (first | exact Le.nil | apply Le.keep | apply Le.drop)) ⟨m / 5, g.set a.toNat (x ++ [v]), rfl, ?_, ?_⟩)
      · rw [ht1]
        exact (set_flat v g _ x hgx).trans (List.Perm.append_right _ hg.1)
      · intro z hz
        rcases List.mem_or_eq_of_mem_set hz with q | q
        · exact hg.2 z q
        · rw [q]; simp
  · rintro Γ' ⟨m, g, rfl, hg⟩
    rw [List.take_length] at hg
    refine HT.frz 2 rfl ?_
    exact HT.ret (EV.var 2) ⟨g, hg, rfl⟩
end
end K2

namespace K2
open PySem L2 Evl Lg PyProof.Rows
abbrev dL (l : List Str) : PyData := .list (l.map .str)
abbrev dA (c : Str × List Str) : PyData := .tuple [.str c.1, dL c.2]
abbrev dG (g : Gp) : PyData := .list (g.map dL)
abbrev dD (c : Str × Gp) : PyData := .tuple [.str c.1, dG c.2]
abbrev dDs (d : Dm) : PyData := .list (d.map dD)
abbrev dT (c : Str × Dm) : PyData := .tuple [.str c.1, dDs c.2]
theorem layPair {a b : PyData} (h : a.canLay0 = true) (k : b.canLay0 = true) : (PyData.tuple [a, b]).canLay0 = true := by
  show (a.canLay0 && (b.canLay0 && true)) = true
  rw [h, k]; rfl
theorem layStrs {l : List Str} (h : StrsOk l) : (dL l).canLay0 = true := layAll _ _ h
theorem layG {g : Gp} (h : StrsOk g.flatten) : (dG g).canLay0 = true := layAll _ _ fun x hx => layStrs fun z hz => h z (List.mem_flatten.mpr ⟨x, hx, hz⟩)
/-- what the attributes are drawn from -/
def FineAts (ats : At) : Prop := attrsB ats = true ∧ ats.length ≤ 4 ∧ ∀ p ∈ ats, p ∈ firstL
theorem first_ok : ∀ p ∈ firstL, p.1.length ≤ 12 ∧ PyData.strOk p.1 = true ∧ nameB p.1 = true ∧ p.1 ≠ "new" ∧ 2 ≤ p.2.length ∧ p.2.length ≤ 4 ∧ (∀ v ∈ p.2, v.length ≤ 12) ∧ (∀ v ∈ p.2, PyData.strOk v = true) ∧ ("none" : Str) ∉ p.2 := by decide +kernel
theorem any_ok : ∀ m ∈ List.range 4, ∀ r ∈ List.range 4, attrsB (anyA (m + 1) r) = true := by decide +kernel
theorem any_in (m r : Nat) : ∀ p ∈ anyA m r, p ∈ firstL := by
  intro p hp
  unfold anyA at hp
  obtain ⟨k, _, rfl⟩ := List.mem_map.mp hp
  rw [List.getD_eq_getElem?_getD, List.getElem?_eq_getElem (show (k + r) % 4 < firstL.length from Nat.mod_lt _ (by decide))]
  exact List.getElem_mem _
theorem any_fine (n : Int) : FineAts (anyAts n) := by
  refine ⟨?_, ?_, any_in _ _⟩
  · unfold anyAts
    have h1 : (1 + n % 4).toNat = (n % 4).toNat + 1 := by omega
    rw [h1]
    exact any_ok _ (List.mem_range.mpr (by omega)) _ (List.mem_range.mpr (by omega))
  · unfold anyAts anyA
    rw [List.length_map, List.length_range]; omega
theorem FineAts.ok {ats : At} (h : FineAts ats) : AtOk ats := ⟨by have := h.2.1; omega, fun p hp => by
  obtain ⟨q1, q2, _, _, _, q5, q6, q7, _⟩ := first_ok p (h.2.2 p hp)
  exact ⟨by omega, by omega, q7, fun v hv => by have := q6 v hv; omega⟩⟩
theorem FineAts.nd {ats : At} (h : FineAts ats) : (ats.map (·.1)).Nodup := by
  have := h.1
  unfold attrsB at this
  rw [Bool.and_eq_true] at this
  have q := aseq_nodup _ [] List.nodup_nil this.1
  rwa [List.nil_append] at q
theorem FineAts.ne {ats : At} (h : FineAts ats) : ats ≠ [] := fun z => by
  have := h.1
  rw [z] at this
  exact absurd this (by decide)
theorem FineAts.vals {ats : At} (h : FineAts ats) {p : Str × List Str} (hp : p ∈ ats) : valsOf ats p.1 = p.2 := vals_eq ats h.nd p hp
/-- a dimension that suits -/
def DmFor (ats : At) (q : Str × Gp) : Prop := ∃ p ∈ ats, q.1 = p.1 ∧ GpFor p.2 q.2
theorem DmFor.ok {ats : At} (h : FineAts ats) {q : Str × Gp} (hq : DmFor ats q) : q.1.length ≤ 12 ∧ PyData.strOk q.1 = true ∧ q.2.flatten.length ≤ 4 ∧ q.2.length ≤ 4 ∧ 1 ≤ q.2.length ∧ StrsOk q.2.flatten ∧ (∀ z ∈ q.2.flatten, z.length ≤ 12) := by
  obtain ⟨p, hp, e, hg⟩ := hq
  obtain ⟨q1, q2, _, _, q4, q5, q6, q7, _⟩ := first_ok p (h.2.2 p hp)
  have hl := gp_len hg
  rw [e]
  have hfl := hg.1.length_eq
  refine ⟨q1, q2, by omega, by omega, ?_, fun z hz => q7 z (hg.1.mem_iff.mp hz), fun z hz => q6 z (hg.1.mem_iff.mp hz)⟩
  cases z : q.2 with
  | nil =>
    rw [z] at hfl
    have : p.2.length = 0 := hfl.symm
    omega
  | cons a b => rw [List.length_cons]; omega
theorem DmFor.group {ats : At} (h : FineAts ats) {q : Str × Gp} (hq : DmFor ats q) : q.1 ∈ ats.map (·.1) ∧ groupB (valsOf ats q.1) q.2 = true := by
  obtain ⟨p, hp, e, hg⟩ := hq
  refine ⟨by rw [e]; exact List.mem_map.mpr ⟨p, hp, rfl⟩, ?_⟩
  rw [e, h.vals hp]
  unfold groupB
  have : (q.2.all fun x => decide (0 < (x.length : Int))) = true := List.all_eq_true.mpr fun x hx => by
    have := List.length_pos_iff.mpr (hg.2 x hx)
    exact decide_eq_true (by omega)
  rw [this]
  exact decide_eq_true hg.1
theorem dims_one {ats : At} (h : FineAts ats) {U : List Str} {q : Str × Gp} (hq : DmFor ats q) (hU : q.1 ∉ U) : dimsB ats U [q] = true := by
  obtain ⟨h1, h2⟩ := hq.group h
  show (if !decide (q.1 ∈ ats.map (·.1)) || decide (q.1 ∈ U) then false else if !groupB (valsOf ats q.1) q.2 then false else true) = true
  rw [decide_eq_true h1, decide_eq_false hU, h2]; rfl
def tnames : List Str := ["t1", "people", "x-y"]
theorem tnames_ok : ∀ n ∈ tnames, n.length ≤ 12 ∧ PyData.strOk n = true ∧ nameB n = true ∧ n ≠ "again" ∧ n ≠ "none" ∧ n ≠ "single" ∧ n ≠ "zz" ∧ n ≠ "x_y" := by decide +kernel
structure FineTb (ats : At) (tbs : Tb) : Prop where
  b : tseqB ats [] tbs = true
  l : tbs.length ≤ 3
  n : ∀ p ∈ tbs, p.1 ∈ tnames
  d : ∀ p ∈ tbs, p.2.length ≤ 2 ∧ ∀ q ∈ p.2, DmFor ats q
theorem FineTb.nil (ats : At) : FineTb ats [] := ⟨rfl, by decide, fun _ h => (nomatch h), fun _ h => nomatch h⟩
theorem lay_dims {ats : At} (h : FineAts ats) {d : Dm} (hd : ∀ q ∈ d, DmFor ats q) : (dDs d).canLay0 = true := layAll _ _ fun q hq => by
  have := (hd q hq).ok h
  exact layPair this.2.1 (layG this.2.2.2.2.2.1)
theorem lay_tbs {ats : At} (h : FineAts ats) {t : Tb} (ht : FineTb ats t) : (PyData.list (t.map dT)).canLay0 = true := layAll _ _ fun p hp => layPair (tnames_ok p.1 (ht.n p hp)).2.1 (lay_dims h (ht.d p hp).2)
theorem lay_ats {ats : At} (h : ∀ p ∈ ats, p ∈ firstL) : (PyData.list (ats.map dA)).canLay0 = true := layAll _ _ fun p hp => by
  have := first_ok p (h p hp)
  exact layPair this.2.1 (layStrs this.2.2.2.2.2.2.2.1)
theorem singles (vs : List Str) : GpFor vs (vs.map fun v => [v]) := by
  refine ⟨?_, fun x hx => by obtain ⟨v, _, rfl⟩ := List.mem_map.mp hx; exact fun z => nomatch z⟩
  have : (vs.map fun v => [v]).flatten = vs := by
    induction vs with
    | nil => rfl
    | cons v vs ih => rw [List.map_cons, List.flatten_cons, ih]; rfl
  rw [this]
theorem prod2 {ats : At} (h : FineAts ats) {d : Dm} (hd : ∀ q ∈ d, DmFor ats q) (hl : d.length ≤ 2) (c : (decide (1 < ((d.getD 0 ("", [])).2.length : Int)) || (decide (1 < (d.length : Int)) && decide (1 < ((d.getD 1 ("", [])).2.length : Int)))) = true) : 2 ≤ prodC d := by
  rcases d with _ | ⟨⟨a, g⟩, _ | ⟨⟨b, k⟩, _ | r⟩⟩
  · exact absurd c (by decide)
  · have c : (decide (1 < (g.length : Int)) || (decide (1 < (1 : Int)) && decide (1 < ((([] : Gp)).length : Int)))) = true := c
    have : 1 < (g.length : Int) := by simpa using c
    show 2 ≤ (g.length : Int) * 1
    omega
  · have c : (decide (1 < (g.length : Int)) || (decide (1 < (2 : Int)) && decide (1 < (k.length : Int)))) = true := c
    have h1 := ((hd (a, g) List.mem_cons_self).ok h).2.2.2.2.1
    have h2 := ((hd (b, k) (List.mem_cons_of_mem _ List.mem_cons_self)).ok h).2.2.2.2.1
    have h1 : 1 ≤ g.length := h1
    have h2 : 1 ≤ k.length := h2
    show 2 ≤ (g.length : Int) * ((k.length : Int) * 1)
    rw [Int.mul_one]
    rw [Bool.or_eq_true, Bool.and_eq_true, decide_eq_true_eq, decide_eq_true_eq, decide_eq_true_eq] at c
    rcases c with c | ⟨_, c⟩
    · have : 2 * 1 ≤ (g.length : Int) * (k.length : Int) := Int.mul_le_mul (by omega) (by omega) (by decide) (by omega)
      omega
    · have : 1 * 2 ≤ (g.length : Int) * (k.length : Int) := Int.mul_le_mul (by omega) (by omega) (by decide) (by omega)
      omega
  · simp at hl
theorem usedT_app (t : Tb) (n : Str) (d : Dm) : usedT (t ++ [(n, d)]) = usedT t ++ d.map (·.1) := by
  unfold usedT
  rw [List.flatMap_append]
  show _ ++ (d.map (·.1) ++ []) = _
  rw [List.append_nil]
theorem era_mem {α : Type} {l : List α} {m : Nat} {x : α} (h : x ∈ l.eraseIdx m) : x ∈ l := List.mem_of_mem_eraseIdx h
/-- what is left to use -/
structure Left (ats : At) (U : List Str) (l : At) : Prop where
  s : ∀ p ∈ l, p ∈ ats
  n : (l.map (·.1)).Nodup
  u : ∀ p ∈ l, p.1 ∉ U
  c : l.length ≤ 4
theorem Left.pop {ats : At} {U : List Str} {l : At} (h : Left ats U l) {m : Nat} {p : Str × List Str} (hp : l[m]? = some p) : Left ats (U ++ [p.1]) (l.eraseIdx m) := by
  refine ⟨fun q hq => h.s q (era_mem hq), ?_, fun q hq z => ?_, Nat.le_trans (List.eraseIdx_sublist l m).length_le h.c⟩
  · exact h.n.sublist ((List.eraseIdx_sublist l m).map _)
  · rcases List.mem_append.mp z with z | z
    · exact h.u q (era_mem hq) z
    · have z : q.1 = p.1 := List.mem_singleton.mp z
      have hm : m < l.length := (List.getElem?_eq_some_iff.mp hp).1
      have key : ∀ (l : At) (m : Nat), (l.map (·.1)).Nodup → l[m]? = some p → q ∈ l.eraseIdx m → q.1 = p.1 → False := by
        intro l
        induction l with
        | nil => intro m _ h; simp at h
        | cons a l ih =>
          intro m nd h hq e
          rw [List.map_cons, List.nodup_cons] at nd
          cases m with
          | zero =>
            have h : a = p := by simpa using h
            have hq : q ∈ l := by simpa using hq
            exact nd.1 (by rw [h, ← e]; exact List.mem_map.mpr ⟨q, hq, rfl⟩)
          | succ m =>
            have h : l[m]? = some p := by simpa using h
            rw [List.eraseIdx_cons_succ] at hq
            rcases List.mem_cons.mp hq with z | z
            · exact nd.1 (by rw [← z, e]; exact List.mem_map.mpr ⟨p, List.mem_of_getElem? h, rfl⟩)
            · exact ih m nd.2 h z e
      exact key l m h.n hp hq z
abbrev rAt : Rl (Str × List Str) := rP rS (rL rS)
abbrev rDm1 : Rl (Str × Gp) := rP rS (rL (rL rS))
abbrev rTb1 : Rl (Str × Dm) := rP rS rDmP
section
variable {P : Program} {w : World} {K : PySem.W.Frag} {mg : Str → Option Value} {base : Heap} {CP CU CT CPl CR CB : Addr}
theorem dwA : Dw K rAt dA 2 := Dw.pair Dw.str (Dw.str.lst Lis.pl)
theorem dwD : Dw K rDm1 dD 3 := Dw.pair Dw.str ((Dw.str.lst Lis.pl).lst Lis.pl)
theorem dwDs : Dw K rDmP dDs 4 := dwD.lst Lis.pl
theorem dwT : Dw K rTb1 dT 5 := Dw.pair Dw.str dwDs
abbrev nAT : List Str := ["attributes", "number", "tables", "names", "left", "k", "dimensions", "j", "one", "grouping", "value"]
theorem scAT : FnScope nAT ["attributes", "number"] (defScope sAT) := ⟨rfl, rfl, rfl, by decide +kernel, rfl, by decide +kernel, by decide +kernel⟩
def spAT : Sp := spR (ι := At × Int) (fun i => [mk (rL rAt) i.1, mk rI i.2]) (fun i => FineAts i.1) (fun i s => ∃ t : Tb, FineTb i.1 t ∧ t ≠ [] ∧ s = im (rL rTb1) t)
theorem ok_at {f : Addr} {fd : FuncData} (F : Fun K "_law_any_tables" "_law_any_tables" sAT f fd) (T : Tp K mg CP CU CT) (tG : Kn P w K mg base 1 "_law_any_grouping" ["values", "number"] spAG) : FnOk P w K mg base (L2N.CX P w) 2 f fd ["attributes", "number"] spAT := by
  refine fn_okR F scAT (fun _ => rfl) fun ⟨ats, n⟩ B cdv A' outer s H E hf hr => ?_
  have hf : FineAts ats := hf
  have nd := scAT.nd
  have tk : L2N.Takes (cxOf (L2N.CX P w) P w K mg base nAT "_law_any_tables" (defScope sAT) f cdv A' outer s H E) (fun cls d _ H => E cls d H) := L2N.takes_of rfl rfl rfl rfl
  conv => arg 5; whnf
  show HT _ _ _ [some (im (rL rAt) ats), some (im rI n), none, none, none, none, none, none, none, none, none] _
  refine HT.set 2 (EV.lst (R := rTb1) (as := []) AV.nil rfl (by decide)) ?_ nd
  refine HT.set 3 (EV.fz (EV.lst (R := rS) (as := tnames) (AV.cons EV.str (AV.cons EV.str (AV.cons EV.str AV.nil))) rfl (by decide))) ?_ nd
  refine HT.set 4 (EV.listOf (AV.cons (EV.var 0) AV.nil) T.lst) ?_ nd
  refine HT.for (IV.rng1 (AV.cons EV.int AV.nil) (by decide) T.rng) (fun k Γ => ∃ (num : Int) (t : Tb) (l : At), Γ = [some (im (rL rAt) ats), some (im rI num), some (ow rTb1 t), some (im (rL rS) tnames), some (ow rAt l), none, none, none, none, none, none] ∧ FineTb ats t ∧ t.length ≤ k ∧ (∀ p ∈ t, p.1 ∈ tnames.take k) ∧ Left ats (usedT t) l) ⟨n, [], ats, rfl, FineTb.nil ats, Nat.le_refl _, fun _ h => (nomatch h), ⟨fun p hp => hp, hf.nd, fun p hp z => (nomatch z), hf.2.1⟩⟩ ?_ ?_ (passes_of rfl)
  · rintro b' i y Γ' hb hi rfl ⟨num, t, l, rfl, ht, htl, htn, hL⟩
    have hi3 : i < 3 := by omega
    refine ⟨_, GV.name 5 nd, ?_⟩
    refine HT.set 6 (EV.lst (R := rDm1) (as := []) AV.nil rfl (by decide)) ?_ nd
    refine HT.for (IV.rng1 (AV.cons (EV.add EV.int (EV.mod (EV.toInt (AV.cons (EV.var 1) AV.nil) T.int) EV.int (by decide))) AV.nil) (by omega) T.rng) (fun j Γ => ∃ (num : Int) (l : At) (d : Dm), Γ = [some (im (rL rAt) ats), some (im rI num), some (ow rTb1 t), some (im (rL rS) tnames), some (ow rAt l), some (im rI (i : Int)), some (ow rDm1 d), none, none, none, none] ∧ dimsB ats (usedT t) d = true ∧ d.length ≤ j ∧ (∀ q ∈ d, DmFor ats q) ∧ Left ats (usedT t ++ d.map (·.1)) l) ⟨num, l, [], rfl, rfl, Nat.le_refl _, fun _ h => (nomatch h), by rw [List.map_nil, List.append_nil]; exact hL⟩ ?_ ?_ (passes_of rfl)
    · rintro b2 j y Γ' hb2 hj rfl ⟨num, l, d, rfl, hdb, hdl, hdf, hL⟩
      have hj2 : j < 2 := by omega
      have l4 : l.length ≤ 4 := hL.c
      refine ⟨_, GV.name 7 nd, ?_⟩
      refine HT.when (TV.lend 4 rfl (TV.neW (x := l) (y := []) (dwA.lst Lis.pl) (by decide) hr.units (lay_ats fun p hp => hf.2.2 p (hL.s p hp)) rfl (EV.var 4) (EV.fz (EV.lst (R := rAt) (as := []) AV.nil rfl (by decide))))) (fun h => ?_) (fun h => ?_)
      · have hne : l ≠ [] := by simpa using h
        have hlp : 0 < l.length := List.length_pos_iff.mpr hne
        have h0 : 0 ≤ num / 2 % (l.length : Int) := Int.emod_nonneg _ (by omega)
        have h1 : num / 2 % (l.length : Int) < (l.length : Int) := Int.emod_lt_of_pos _ (by omega)
        have hx : l[(num / 2 % (l.length : Int)).toNat]? = some (l.getD (num / 2 % (l.length : Int)).toNat ("", [])) := by
          rw [List.getD_eq_getElem?_getD, List.getElem?_eq_getElem (by omega)]; rfl
        refine HT.setPop (m := (num / 2 % (l.length : Int)).toNat) (x := l.getD (num / 2 % (l.length : Int)).toNat ("", [])) 4 8 (by decide) rfl (EV.mod (EV.toInt (AV.cons (EV.fdiv (EV.var 1) EV.int (by constructor <;> decide)) AV.nil) T.int) (EV.lenOw 4 rfl T.len) (by omega)) h0 rfl hx (by omega) ?_ nd
        have hL2 := hL.pop hx
        have hin := hL.s _ (List.mem_of_getElem? hx)
        have hun := hL.u _ (List.mem_of_getElem? hx)
        generalize l.getD (num / 2 % (l.length : Int)).toNat ("", []) = p at hx hL2 hin hun
        obtain ⟨a, vs⟩ := p
        have fo := first_ok _ (hf.2.2 _ hin)
        have vl : vs.length ≤ 4 := fo.2.2.2.2.2.1
        generalize l.eraseIdx (num / 2 % (l.length : Int)).toNat = l2 at hL2
        refine HT.setR 9 (EVR.call tG (hr.mono (by decide)) tk (AV.cons (EV.ixP1 (x := a) (y := vs) (R := rS) (S := rL rS) (EV.var 8)) (AV.cons (EV.fdiv (EV.var 1) EV.int (by constructor <;> decide)) AV.nil)) (i := (vs, num / 7)) (by show vs.length ≤ 50; omega)) (fun s' hs => ?_) nd
        obtain ⟨g, hg, rfl⟩ := hs
        refine HT.when (TV.gt (EV.mod (EV.toInt (AV.cons (EV.fdiv (EV.var 1) EV.int (by constructor <;> decide)) AV.nil) T.int) EV.int (by decide)) EV.int) (fun _ => ?_) (fun _ => ?_)
        · refine HT.setC 9 (LV.lcL0 (j := 10) (S := rL rS) (fun v : Str => [v]) (IV.list (EV.ixP1 (x := a) (y := vs) (R := rS) (S := rL rS) (EV.var 8))) nd (by show blkC nAT (defScope sAT) _ [("value", 10)] = true; decide +kernel) (by omega) (fun b' i v s H0 C cl fp hb hv => EV.fz (EV.lst (R := rS) (as := [v]) (AV.cons (EV.var 10) AV.nil) rfl (by show 1 ≤ 1000; decide))) (fun _ _ _ _ _ => pg_name nd rfl (Or.inl rfl))) ?_ (sw_true rfl rfl rfl (by decide +kernel))
          refine HT.frz 9 rfl ?_
          have hg := singles vs
          generalize (vs.map fun v => [v]) = g at hg
          refine HT.nil ?_
          refine HT.append (x := (a, g)) 6 rfl (EV.pair (R := rS) (S := rL (rL rS)) (AV.cons (EV.ixP0 (x := a) (y := vs) (R := rS) (S := rL rS) (EV.var 8)) (AV.cons (EV.var 9) AV.nil))) (by omega) ?_
          refine HT.nil (HT.set 1 (EV.fdiv (EV.var 1) EV.int (by constructor <;> decide)) ?_ nd)
          have hq : DmFor ats (a, g) := ⟨_, hin, rfl, hg⟩
          refine HT.done (by repeat (first | exact Le.nil | apply Le.keep | apply Le.drop)) ⟨num / 9, l2, d ++ [(a, g)], rfl, ?_, ?_, ?_, ?_⟩
          · rw [dimsB_app, hdb, dims_one hf hq hun]; rfl
          · rw [List.length_append]; show d.length + 1 ≤ j + 1; omega
          · intro q hq'
            rcases List.mem_append.mp hq' with z | z
            · exact hdf q z
            · rw [List.mem_singleton.mp z]; exact hq
          · rw [List.map_append, ← List.append_assoc]; exact hL2
        · refine HT.append (x := (a, g)) 6 rfl (EV.pair (R := rS) (S := rL (rL rS)) (AV.cons (EV.ixP0 (x := a) (y := vs) (R := rS) (S := rL rS) (EV.var 8)) (AV.cons (EV.var 9) AV.nil))) (by omega) ?_
          refine HT.nil (HT.set 1 (EV.fdiv (EV.var 1) EV.int (by constructor <;> decide)) ?_ nd)
          have hq : DmFor ats (a, g) := ⟨_, hin, rfl, hg⟩
          refine HT.done (by repeat (first | exact Le.nil | apply Le.keep | apply Le.drop)) ⟨num / 9, l2, d ++ [(a, g)], rfl, ?_, ?_, ?_, ?_⟩
          · rw [dimsB_app, hdb, dims_one hf hq hun]; rfl
          · rw [List.length_append]; show d.length + 1 ≤ j + 1; omega
          · intro q hq'
            rcases List.mem_append.mp hq' with z | z
            · exact hdf q z
            · rw [List.mem_singleton.mp z]; exact hq
          · rw [List.map_append, ← List.append_assoc]; exact hL2
      · refine HT.set 1 (EV.fdiv (EV.var 1) EV.int (by constructor <;> decide)) ?_ nd
        exact HT.done (by repeat (first | exact Le.nil | apply Le.keep | apply Le.drop)) ⟨num / 9, l, d, rfl, hdb, by omega, hdf, hL⟩
    · rintro Γ' ⟨num, l, d, rfl, hdb, hdl, hdf, hL⟩
      have hd2 : d.length ≤ 2 := by omega
      refine HT.frz 6 rfl ?_
      have a0 : d ≠ [] → atI d ((0 : Nat) : Int) = some (d.getD 0 ("", [])) := fun z => atI_nat (by
        rw [List.getD_eq_getElem?_getD, List.getElem?_eq_getElem (List.length_pos_iff.mpr z)]; rfl)
      have a1 : decide (1 < (d.length : Int)) = true → atI d ((1 : Nat) : Int) = some (d.getD 1 ("", [])) := fun z => atI_nat (by
        have z : 1 < (d.length : Int) := of_decide_eq_true z
        rw [List.getD_eq_getElem?_getD, List.getElem?_eq_getElem (show 1 < d.length by omega)]; rfl)
      have dn : ∀ {b : Bool}, (!decide (d = [])) = true → d ≠ [] := fun {_} z => by simpa using z
      refine HT.when (TV.and (TV.neW (x := d) (y := []) dwDs (by decide) hr.units (lay_dims hf hdf) rfl (EV.var 6) (EV.fz (EV.lst (R := rDm1) (as := []) AV.nil rfl (by decide)))) (fun hne => TV.or (TV.gt (EV.lenL (AV.cons (EV.ixP1 (x := (d.getD 0 ("", [])).1) (y := (d.getD 0 ("", [])).2) (R := rS) (S := rL (rL rS)) (EV.ixL (EV.var 6) EV.int (a0 (dn (b := true) hne)))) AV.nil) T.len) EV.int) (fun _ => TV.and (TV.gt (EV.lenL (AV.cons (EV.var 6) AV.nil) T.len) EV.int) (fun h2 => TV.gt (EV.lenL (AV.cons (EV.ixP1 (x := (d.getD 1 ("", [])).1) (y := (d.getD 1 ("", [])).2) (R := rS) (S := rL (rL rS)) (EV.ixL (EV.var 6) EV.int (a1 h2))) AV.nil) T.len) EV.int)))) (fun h => ?_) (fun h => ?_)
      · rw [Bool.and_eq_true] at h
        have hpr := prod2 hf hdf hd2 h.2
        have hnm : tnames[i]? = some (tnames.getD i "") := by
          rw [List.getD_eq_getElem?_getD, List.getElem?_eq_getElem (show i < tnames.length from hi3)]; rfl
        refine HT.append (x := (tnames.getD i "", d)) 2 rfl (EV.pair (R := rS) (S := rDmP) (AV.cons (EV.ixL (EV.var 3) (EV.var 5) (atI_nat hnm)) (AV.cons (EV.var 6) AV.nil))) (by omega) ?_
        have hnin : tnames.getD i "" ∈ tnames := List.mem_of_getElem? hnm
        have hnew : tnames.getD i "" ∉ tnames.take i := by
          have : ∀ i ∈ List.range 3, tnames.getD i "" ∉ tnames.take i := by decide +kernel
          exact this i (List.mem_range.mpr hi3)
        have htk : ∀ z ∈ tnames.take i, z ∈ tnames.take (i + 1) := fun z hz => by
          rw [List.take_add_one]; exact List.mem_append_left _ hz
        have htb : tableB ats t (tnames.getD i "") d = true := by
          unfold tableB
          rw [(tnames_ok _ hnin).2.2.1, decide_eq_false (fun z => hnew (by
            obtain ⟨p, hp, e⟩ := List.mem_map.mp z
            rw [← e]; exact htn p hp)), hdb, decide_eq_true hpr]; rfl
        generalize hgn : tnames.getD i "" = nm at hnm hnin hnew htb
        refine HT.nil (HT.done (by repeat (first | exact Le.nil | apply Le.keep | apply Le.drop)) ⟨num, t ++ [(nm, d)], l, rfl, ⟨?_, ?_, ?_, ?_⟩, ?_, ?_, ?_⟩)
        · rw [tseqB_app, ht.b]
          show (true && (tableB ats ([] ++ t) nm d && true)) = true
          rw [List.nil_append, htb]; rfl
        · rw [List.length_append]; show t.length + 1 ≤ 3; omega
        · intro p hp
          rcases List.mem_append.mp hp with z | z
          · exact ht.n p z
          · rw [List.mem_singleton.mp z]; exact hnin
        · intro p hp
          rcases List.mem_append.mp hp with z | z
          · exact ht.d p z
          · rw [List.mem_singleton.mp z]; exact ⟨hd2, hdf⟩
        · rw [List.length_append]; show t.length + 1 ≤ i + 1; omega
        · intro p hp
          rcases List.mem_append.mp hp with z | z
          · exact htk _ (htn p z)
          · rw [List.mem_singleton.mp z, List.take_add_one, hnm]
            exact List.mem_append_right _ (List.mem_singleton.mpr rfl)
        · rw [usedT_app]; exact hL
      · refine HT.done (by repeat (first | exact Le.nil | apply Le.keep | apply Le.drop)) ⟨num, t, l, rfl, ht, by omega, fun p hp => ?_, ⟨hL.s, hL.n, fun p hp z => hL.u p hp (List.mem_append_left _ z), hL.c⟩⟩
        rw [List.take_add_one]; exact List.mem_append_left _ (htn p hp)
  · rintro Γ' ⟨num, t, l, rfl, ht, htl, htn, hL⟩
    obtain ⟨p0, rest, hats⟩ : ∃ p0 rest, ats = p0 :: rest := by
      cases e : ats with
      | nil => exact absurd e hf.ne
      | cons a b => exact ⟨a, b, rfl⟩
    have hp0 : p0 ∈ ats := by rw [hats]; exact List.mem_cons_self
    obtain ⟨a, vs⟩ := p0
    have h0 : atI ats ((0 : Nat) : Int) = some (a, vs) := atI_nat (by rw [hats]; rfl)
    have fo := first_ok _ (hf.2.2 _ hp0)
    have v2 : 2 ≤ vs.length := fo.2.2.2.2.1
    have vl : vs.length ≤ 4 := fo.2.2.2.2.2.1
    refine HT.when (TV.lend 2 rfl (TV.eqW (x := t) (y := []) (dwT.lst Lis.pl) (by decide) hr.units (lay_tbs hf ht) rfl (EV.var 2) (EV.fz (EV.lst (R := rTb1) (as := []) AV.nil rfl (by decide))))) (fun h => ?_) (fun h => ?_)
    · refine HT.set 2 (EV.lst (R := rTb1) (as := [("t1", [(a, vs.map fun v => [v])])]) (AV.cons (EV.pair (R := rS) (S := rDmP) (AV.cons EV.str (AV.cons (EV.fz (EV.lst (R := rDm1) (as := [(a, vs.map fun v => [v])]) (AV.cons (EV.pair (R := rS) (S := rL (rL rS)) (AV.cons (EV.ixP0 (x := a) (y := vs) (R := rS) (S := rL rS) (EV.ixL (EV.var 0) EV.int h0)) (AV.cons (EV.fz (LV.ev (LV.lcL0 (j := 10) (S := rL rS) (fun v : Str => [v]) (IV.list (EV.ixP1 (x := a) (y := vs) (R := rS) (S := rL rS) (EV.ixL (EV.var 0) EV.int h0))) nd (by show blkC nAT (defScope sAT) _ [("value", 10)] = true; decide +kernel) (by omega) (fun b' i v s H0 C cl fp hb hv => EV.fz (EV.lst (R := rS) (as := [v]) (AV.cons (EV.var 10) AV.nil) rfl (by show 1 ≤ 1000; decide))) (fun _ _ _ _ _ => pg_name nd rfl (Or.inl rfl))))) AV.nil))) AV.nil) rfl (by show 1 ≤ 1000; decide))) AV.nil))) AV.nil) rfl (by show 1 ≤ 1000; decide)) ?_ nd
      refine HT.nil ?_
      refine HT.frz 2 rfl ?_
      refine HT.ret (EV.var 2) (⟨[("t1", [(a, vs.map fun v => [v])])], ⟨?_, (by show 1 ≤ 3; decide), ?_, ?_⟩, List.cons_ne_nil _ _, rfl⟩)
      · have hq : DmFor ats (a, vs.map fun v => [v]) := ⟨_, hp0, rfl, singles vs⟩
        show (tableB ats [] "t1" [(a, vs.map fun v => [v])] && true) = true
        unfold tableB
        rw [show nameB "t1" = true by decide +kernel, dims_one hf hq (show a ∉ usedT [] from List.not_mem_nil)]
        show (decide (2 ≤ prodC [(a, vs.map fun v => [v])]) && true) = true
        rw [decide_eq_true (by show 2 ≤ ((vs.map fun v => [v]).length : Int) * 1; rw [List.length_map]; omega)]; rfl
      · intro p hp
        rw [List.mem_singleton.mp hp]; exact List.mem_cons_self
      · intro p hp
        rw [List.mem_singleton.mp hp]
        refine ⟨by show 1 ≤ 2; decide, fun q hq => ?_⟩
        rw [List.mem_singleton.mp hq]
        exact ⟨_, hp0, rfl, singles vs⟩
    · exact HT.frz 2 rfl (HT.ret (EV.var 2) ⟨t, ht, by simpa using h, rfl⟩)
end
end K2

namespace K2
open PySem L2 Evl Lg PyProof.Rows
theorem sapp_assoc (a b c : Str) : (a ++ b) ++ c = a ++ (b ++ c) := by
  show Str.mk _ = Str.mk _
  exact congrArg Str.mk (Array.append_assoc ..)
theorem cut1 (x : Str) : cutS (("/" : Str) ++ x) (some ((1 : Nat) : Int)) none = x := by
  have h1 : (("/" : Str) ++ x).cps.toList = 47 :: x.cps.toList := by
    show (("/" : Str).cps ++ x.cps).toList = _
    rw [Array.toList_append, show ("/" : Str).cps.toList = [47] from by decide +kernel]; rfl
  have h2 : (("/" : Str) ++ x).length = x.length + 1 := by
    show (("/" : Str) ++ x).cps.size = _
    rw [← Array.length_toList, h1, List.length_cons, Array.length_toList]; rfl
  unfold cutS
  rw [HT.sIx_nat, HT.sIx_none, h1, h2, Nat.min_eq_left (by omega), List.drop_succ_cons, List.drop_zero, List.take_of_length_le (by rw [Array.length_toList]; show x.length ≤ _; omega)]
theorem cn_slash (r : Dm) : ∀ ns : List Str, cnames (ns.map fun n => (("/" : Str) ++ n)) r = (cnames ns r).map fun n => (("/" : Str) ++ n) := by
  induction r with
  | nil => intro ns; rfl
  | cons p r ih =>
    intro ns
    obtain ⟨a, g⟩ := p
    show cnames ((ns.map fun n => (("/" : Str) ++ n)).flatMap fun n => (gnames g).map fun x => n ++ ("/" ++ x)) r = (cnames (ns.flatMap fun n => (gnames g).map fun x => n ++ ("/" ++ x)) r).map _
    rw [← ih]
    congr 1
    induction ns with
    | nil => rfl
    | cons n ns ih2 =>
      rw [List.map_cons, List.flatMap_cons, List.flatMap_cons, List.map_append, ih2, List.map_map]
      congr 1
      refine List.map_congr_left fun x _ => ?_
      exact sapp_assoc _ _ _
theorem cn_cut {d : Dm} (h : d ≠ []) : (cnames [""] d).map (fun n => cutS n (some ((1 : Nat) : Int)) none) = clsN d := by
  cases d with
  | nil => exact absurd rfl h
  | cons p r =>
    obtain ⟨a, g⟩ := p
    show (cnames ((([""] : List Str).flatMap fun (n : Str) => (gnames g).map fun (x : Str) => n ++ (("/" : Str) ++ x))) r).map _ = cnames (gnames g) r
    have e : (([""] : List Str).flatMap fun (n : Str) => (gnames g).map fun (x : Str) => n ++ (("/" : Str) ++ x)) = (gnames g).map fun (x : Str) => (("/" : Str) ++ x) := by
      show ((gnames g).map fun (x : Str) => ("" : Str) ++ (("/" : Str) ++ x)) ++ [] = _
      rw [List.append_nil]
      exact List.map_congr_left fun x _ => em_app _
    rw [e, cn_slash, List.map_map]
    conv => rhs; rw [← List.map_id (cnames (gnames g) r)]
    exact List.map_congr_left fun x _ => cut1 x
section
variable {P : Program} {w : World} {K : PySem.W.Frag} {mg : Str → Option Value} {base : Heap} {CP CU CT CPl CR CB : Addr}
abbrev nLC : List Str := ["dimensions", "names", "dimension", "more", "name", "group"]
theorem scLC : FnScope nLC ["dimensions"] (defScope sLC) := ⟨rfl, rfl, rfl, by decide +kernel, rfl, by decide +kernel, by decide +kernel⟩
def spLC : Sp := spX (ι := Dm) (fun i => [mk rDmP i]) (fun i => i ≠ [] ∧ DmOk i ∧ PrOk i) (fun i => .ok (im (rL rS) (clsN i)))
theorem ok_lc {f : Addr} {fd : FuncData} (F : Fun K "_law_class_names" "_law_class_names" sLC f fd) : FnOk P w K mg base (L2N.CX P w) 1 f fd ["dimensions"] spLC := by
  refine fn_ok F scLC (fun _ => rfl) fun d B cdv A' outer s H E ⟨hne, hd, hpr⟩ hr _ => ?_
  have hne : d ≠ [] := hne
  have hd : DmOk d := hd
  have hpr : PrOk d := hpr
  have hl10 := hd.1
  have nd := scLC.nd
  have slash : ("/" : Str).length = 1 := by decide
  conv => arg 5; whnf
  show HT _ _ _ [some (im rDmP d), none, none, none, none, none] _
  refine HT.set 1 (EV.lst (R := rS) (as := [""]) (AV.cons EV.str AV.nil) rfl (by decide)) ?_ nd
  refine HT.frz 1 rfl ?_
  refine HT.for (IV.list (EV.var 0)) (fun k Γ => Γ = [some (im rDmP d), some (im (rL rS) (cnames [""] (d.take k))), none, none, none, none] ∧ ∀ z ∈ cnames [""] (d.take k), z.length ≤ 50051 * (k + 1)) ⟨rfl, fun z hz => by
    have : z = "" := List.mem_singleton.mp hz
    rw [this]; exact Nat.zero_le _⟩ ?_ ?_ (passes_of rfl)
  · rintro b' i y Γ' hb hi ⟨⟨a, g⟩, hx, rfl⟩ ⟨rfl, hz⟩
    have hx : d[i]? = some (a, g) := hx
    have hg : GpOk g := (hd.2 _ (List.mem_of_getElem? hx)).2
    have hi10 : i < 10 := by have := (List.getElem?_eq_some_iff.mp hx).1; omega
    have ht1 : d.take (i + 1) = d.take i ++ [(a, g)] := by rw [List.take_add_one, hx]; rfl
    have e1 : cnames [""] (d.take (i + 1)) = (cnames [""] (d.take i)).flatMap fun (n : Str) => (gnames g).map fun (x : Str) => n ++ (("/" : Str) ++ x) := by
      rw [ht1, cnames_app]; rfl
    have hlen : (cnames [""] (d.take (i + 1))).length ≤ 10000 := by
      have h1 := cn_len (d.take (i + 1)) [""]
      have h2 := hpr (i + 1)
      rw [show ((([""] : List Str).length : Nat) : Int) = 1 from rfl, Int.one_mul] at h1
      omega
    generalize cnames [""] (d.take i) = ns at e1 hz
    refine ⟨_, GV.name 2 nd, ?_⟩
    refine HT.set 3 (EV.lst (R := rS) (as := []) AV.nil rfl (by decide)) ?_ nd
    refine HT.frz 3 rfl ?_
    refine HT.for (IV.list (EV.var 1)) (fun k Γ => Γ = [some (im rDmP d), some (im (rL rS) ns), some (im rDm1 (a, g)), some (im (rL rS) ((ns.take k).flatMap fun (n : Str) => (gnames g).map fun (x : Str) => n ++ (("/" : Str) ++ x))), none, none]) rfl ?_ ?_ (passes_of rfl)
    · rintro b2 j y Γ' hb2 hj ⟨n, hn, rfl⟩ rfl
      have hn : ns[j]? = some n := hn
      have ht2 : ns.take (j + 1) = ns.take j ++ [n] := by rw [List.take_add_one, hn]; rfl
      have e2 : ((ns.take (j + 1)).flatMap fun (n : Str) => (gnames g).map fun (x : Str) => n ++ (("/" : Str) ++ x)) = ((ns.take j).flatMap fun (n : Str) => (gnames g).map fun (x : Str) => n ++ (("/" : Str) ++ x)) ++ g.map fun x => (n ++ "/") ++ Str.join "+" x := by
        rw [ht2, List.flatMap_append]
        congr 1
        show ((gnames g).map fun (x : Str) => n ++ (("/" : Str) ++ x)) ++ [] = _
        rw [List.append_nil]
        unfold gnames
        rw [List.map_map]
        exact List.map_congr_left fun x _ => (sapp_assoc _ _ _).symm
      have hsz : (((ns.take j).flatMap fun (n : Str) => (gnames g).map fun (x : Str) => n ++ (("/" : Str) ++ x)) ++ g.map fun x => (n ++ "/") ++ Str.join "+" x).length ≤ 10000 := by
        rw [← e2]
        refine Nat.le_trans ?_ hlen
        rw [e1]
        conv => rhs; rw [← List.take_append_drop (j + 1) ns, List.flatMap_append, List.length_append]
        exact Nat.le_add_right _ _
      have hnl := hz n (List.mem_of_getElem? hn)
      refine ⟨_, GV.name 4 nd, ?_⟩
      refine HT.set 3 (EV.cat (bs := g.map fun x => (n ++ "/") ++ Str.join "+" x) (EV.var 3) (EV.fz (LV.ev (LV.lcL0 (j := 5) (S := rS) (fun x : List Str => (n ++ "/") ++ Str.join "+" x) (IV.list (EV.ixP1 (x := a) (y := g) (R := rS) (S := rL (rL rS)) (EV.var 2))) nd (by show blkC nLC (defScope sLC) _ [("group", 5)] = true; decide +kernel) (by have := hg.1; omega) (fun b' i x s H0 C cl fp hb hx => ?_) (fun _ _ _ _ _ => pg_name nd rfl (Or.inl rfl))))) (by rw [List.length_append] at hsz; omega)) ?_ nd
      · obtain ⟨h1, _, h3⟩ := grp_sub (List.mem_of_getElem? hx) hg
        have h4 := sum_le h3
        have h5 : x.length * 1000 ≤ 50 * 1000 := Nat.mul_le_mul_right _ h1
        have h6 : x.length * (("+" : Str).length) ≤ 50 * 1 := Nat.mul_le_mul h1 (by decide)
        have h7 := join_len "+" x
        refine EV.addS (EV.addS (EV.var 4) EV.str (by rw [slash]; omega)) (EV.join Lis.pl EV.str (EV.var 5) (by omega)) ?_
        rw [str_app_len, slash]; omega
      rw [← e2]
      refine HT.frz 3 rfl ?_
      exact HT.done (by repeat (first | exact Le.nil | apply Le.keep | apply Le.drop)) rfl
    · rintro Γ' rfl
      rw [List.take_length, ← e1]
      refine HT.set 1 (EV.var 3) ?_ nd
      refine HT.done (by repeat (first | exact Le.nil | apply Le.keep | apply Le.drop)) ⟨rfl, fun z hz' => ?_⟩
      rw [e1] at hz'
      obtain ⟨n, hn, hz'⟩ := List.mem_flatMap.mp hz'
      obtain ⟨x, hx', rfl⟩ := List.mem_map.mp hz'
      have h1 := hz n hn
      have h2 := gn_len hg x hx'
      rw [str_app_len, str_app_len]
      omega
  · rintro Γ' ⟨rfl, hz⟩
    rw [List.take_length] at hz ⊢
    have hlen : (cnames [""] d).length ≤ 10000 := by
      have h1 := cn_len d [""]
      have h2 := hpr d.length
      rw [List.take_length] at h2
      rw [show ((([""] : List Str).length : Nat) : Int) = 1 from rfl, Int.one_mul] at h1
      omega
    refine HT.ret (EV.fz (LV.ev (LV.lcL0 (j := 4) (S := rS) (fun n : Str => cutS n (some ((1 : Nat) : Int)) none) (IV.list (EV.var 1)) nd (by show blkC nLC (defScope sLC) _ [("name", 4)] = true; decide +kernel) (by omega) (fun b' i x s H0 C cl fp hb hx => EV.fromS (m := 1) (EV.var 4) EV.int (by have := hz x (List.mem_of_getElem? hx); omega)) (fun _ _ _ _ _ => pg_name nd rfl (Or.inl rfl))))) ?_
    show Rs.ok (im (rL rS) (clsN d)) = Rs.ok _
    rw [cn_cut hne]

def brk (ats : At) (tbs : Tb) (nm : Str) (d : Dm) (a : Str) (g : Gp) (v : Str) (way : Int) : At × Tb :=
  if way = 1 then (ats ++ ([("Bad", ["a", "b"])] : At), tbs) else
  if way = 2 then (ats ++ [ats.headD ("", [])], tbs) else
  if way = 3 then (ats ++ ([("new", ["a", "b", "a"])] : At), tbs) else
  if way = 4 then (ats ++ ([("new", ["a"])] : At), tbs) else
  if way = 5 then (ats, tbs ++ [(nm, d)]) else
  if way = 6 then (ats, ([("x_y", d)] : Tb) ++ tbs.drop 1) else
  if way = 7 then (ats, [(nm, [(a, g.drop 1)] ++ d.drop 1)] ++ tbs.drop 1) else
  if way = 8 then (ats, [(nm, [(a, g ++ [[v]])] ++ d.drop 1)] ++ tbs.drop 1) else
  if way = 9 then (ats, [(nm, [(a, g ++ [[]])] ++ d.drop 1)] ++ tbs.drop 1) else
  if way = 10 then (ats, tbs ++ ([("again", [(a, g)])] : Tb)) else
  if way = 11 then (ats, tbs ++ ([("none", [])] : Tb)) else
  if way = 12 then (ats, []) else
  if way = 13 then ([], tbs) else
  (ats ++ ([("new", ["a", "b"])] : At), tbs ++ ([("single", [("new", [["a", "b"]])])] : Tb))
/-- the parts of the first table -/
structure Parts (ats : At) (tbs : Tb) (nm : Str) (d : Dm) (a : Str) (g : Gp) (v : Str) : Prop where
  t : ∃ r, tbs = (nm, d) :: r
  d : ∃ r, d = (a, g) :: r
  g : ∃ x r, g = (v :: x) :: r
abbrev nBr : List Str := ["attributes", "tables", "way", "name", "dimensions", "first"]
theorem scBr : FnScope nBr ["attributes", "tables", "way"] (defScope sBr) := ⟨rfl, rfl, rfl, by decide +kernel, rfl, by decide +kernel, by decide +kernel⟩
structure BrI where
  ats : At
  tbs : Tb
  nm : Str
  d : Dm
  a : Str
  g : Gp
  v : Str
  way : Int
def spBr : Sp := spX (ι := BrI) (fun i => [mk (rL rAt) i.ats, mk (rL rTb1) i.tbs, mk rI i.way]) (fun i => FineAts i.ats ∧ FineTb i.ats i.tbs ∧ Parts i.ats i.tbs i.nm i.d i.a i.g i.v) (fun i => .ok (im (rP (rL rAt) (rL rTb1)) (brk i.ats i.tbs i.nm i.d i.a i.g i.v i.way)))

theorem ok_br {f : Addr} {fd : FuncData} (F : Fun K "_law_broken" "_law_broken" sBr f fd) : FnOk P w K mg base (L2N.CX P w) 1 f fd ["attributes", "tables", "way"] spBr := by
  refine fn_ok F scBr (fun _ => rfl) fun ⟨ats, tbs, nm, d, a, g, v, way⟩ B cdv A' outer s H E ⟨hf, ht, hP⟩ hr _ => ?_
  have hf : FineAts ats := hf
  have ht : FineTb ats tbs := ht
  have hP : Parts ats tbs nm d a g v := hP
  obtain ⟨⟨tr, hP1⟩, ⟨dr, hP2⟩, x, gr, hP3⟩ := hP
  have nd := scBr.nd
  have la := hf.2.1
  have lt := ht.l
  have htd := ht.d (nm, d) (by rw [hP1]; exact List.mem_cons_self)
  have ld : d.length ≤ 2 := htd.1
  have lg : g.length ≤ 4 := ((htd.2 (a, g) (by show (a, g) ∈ d; rw [hP2]; exact List.mem_cons_self)).ok hf).2.2.2.1
  have h0 : atI ats ((0 : Nat) : Int) = some (ats.headD ("", [])) := atI_nat (by
    cases e : ats with
    | nil => exact absurd e hf.ne
    | cons p r => rfl)
  have h1 : atI tbs ((0 : Nat) : Int) = some (nm, d) := atI_nat (by rw [hP1]; rfl)
  have h2 : atI d ((0 : Nat) : Int) = some (a, g) := atI_nat (by rw [hP2]; rfl)
  have h3 : atI g ((0 : Nat) : Int) = some (v :: x) := atI_nat (by rw [hP3]; rfl)
  have h4 : atI (v :: x) ((0 : Nat) : Int) = some v := atI_nat rfl
  conv => arg 5; whnf
  show HT _ _ _ [some (im (rL rAt) ats), some (im (rL rTb1) tbs), some (im rI way), none, none, none] _
  refine HT.set 3 (EV.ixP0 (x := nm) (y := d) (R := rS) (S := rDmP) (EV.ixL (EV.var 1) EV.int h1)) ?_ nd
  refine HT.set 4 (EV.ixP1 (x := nm) (y := d) (R := rS) (S := rDmP) (EV.ixL (EV.var 1) EV.int h1)) ?_ nd
  refine HT.set 5 (EV.ixL (EV.var 4) EV.int h2) ?_ nd
  refine HT.when (TV.eqI (EV.var 2) EV.int) (fun c1 => ?_) (fun c1 => ?_)
  · refine HT.ret (EV.pair (R := rL rAt) (S := rL rTb1) (AV.cons (EV.catC (EV.var 0) (Ev1.l1 (Ev1.pr (R := rS) (S := rL rS) Ev1.str (Ev1.l2 Ev1.str Ev1.str))) (by simp only [List.length_append, List.length_drop, List.length_cons, List.length_nil]; omega)) (AV.cons (EV.var 1) AV.nil))) ?_
    show Rs.ok (im (rP (rL rAt) (rL rTb1)) (brk ats tbs nm d a g v way)) = Rs.ok _
    unfold brk
    rw [if_pos (of_decide_eq_true c1)]
  refine HT.when (TV.eqI (EV.var 2) EV.int) (fun c2 => ?_) (fun c2 => ?_)
  · refine HT.ret (EV.pair (R := rL rAt) (S := rL rTb1) (AV.cons (EV.fz (EV.cat (EV.var 0) (EV.fz (EV.lst (R := rAt) (as := [ats.headD ("", [])]) (AV.cons (EV.ixL (EV.var 0) EV.int h0) AV.nil) rfl (by show 1 ≤ 1000; decide))) (by simp only [List.length_append, List.length_drop, List.length_cons, List.length_nil]; omega))) (AV.cons (EV.var 1) AV.nil))) ?_
    show Rs.ok (im (rP (rL rAt) (rL rTb1)) (brk ats tbs nm d a g v way)) = Rs.ok _
    unfold brk
    rw [if_neg (of_decide_eq_false c1), if_pos (of_decide_eq_true c2)]
  refine HT.when (TV.eqI (EV.var 2) EV.int) (fun c3 => ?_) (fun c3 => ?_)
  · refine HT.ret (EV.pair (R := rL rAt) (S := rL rTb1) (AV.cons (EV.catC (EV.var 0) (Ev1.l1 (Ev1.pr (R := rS) (S := rL rS) Ev1.str (Ev1.l3 Ev1.str Ev1.str Ev1.str))) (by simp only [List.length_append, List.length_drop, List.length_cons, List.length_nil]; omega)) (AV.cons (EV.var 1) AV.nil))) ?_
    show Rs.ok (im (rP (rL rAt) (rL rTb1)) (brk ats tbs nm d a g v way)) = Rs.ok _
    unfold brk
    rw [if_neg (of_decide_eq_false c1), if_neg (of_decide_eq_false c2), if_pos (of_decide_eq_true c3)]
  refine HT.when (TV.eqI (EV.var 2) EV.int) (fun c4 => ?_) (fun c4 => ?_)
  · refine HT.ret (EV.pair (R := rL rAt) (S := rL rTb1) (AV.cons (EV.catC (EV.var 0) (Ev1.l1 (Ev1.pr (R := rS) (S := rL rS) Ev1.str (Ev1.l1 Ev1.str))) (by simp only [List.length_append, List.length_drop, List.length_cons, List.length_nil]; omega)) (AV.cons (EV.var 1) AV.nil))) ?_
    show Rs.ok (im (rP (rL rAt) (rL rTb1)) (brk ats tbs nm d a g v way)) = Rs.ok _
    unfold brk
    rw [if_neg (of_decide_eq_false c1), if_neg (of_decide_eq_false c2), if_neg (of_decide_eq_false c3), if_pos (of_decide_eq_true c4)]
  refine HT.when (TV.eqI (EV.var 2) EV.int) (fun c5 => ?_) (fun c5 => ?_)
  · refine HT.ret (EV.pair (R := rL rAt) (S := rL rTb1) (AV.cons (EV.var 0) (AV.cons (EV.fz (EV.cat (EV.var 1) (EV.fz (EV.lst (R := rTb1) (as := [(nm, d)]) (AV.cons (EV.pair (R := rS) (S := rDmP) (AV.cons (EV.var 3) (AV.cons (EV.var 4) AV.nil))) AV.nil) rfl (by show 1 ≤ 1000; decide))) (by simp only [List.length_append, List.length_drop, List.length_cons, List.length_nil]; omega))) AV.nil))) ?_
    show Rs.ok (im (rP (rL rAt) (rL rTb1)) (brk ats tbs nm d a g v way)) = Rs.ok _
    unfold brk
    rw [if_neg (of_decide_eq_false c1), if_neg (of_decide_eq_false c2), if_neg (of_decide_eq_false c3), if_neg (of_decide_eq_false c4), if_pos (of_decide_eq_true c5)]
  refine HT.when (TV.eqI (EV.var 2) EV.int) (fun c6 => ?_) (fun c6 => ?_)
  · refine HT.ret (EV.pair (R := rL rAt) (S := rL rTb1) (AV.cons (EV.var 0) (AV.cons (EV.fz (EV.cat (EV.fz (EV.lst (R := rTb1) (as := [("x_y", d)]) (AV.cons (EV.pair (R := rS) (S := rDmP) (AV.cons EV.str (AV.cons (EV.var 4) AV.nil))) AV.nil) rfl (by show 1 ≤ 1000; decide))) (EV.fz (EV.from (m := 1) (EV.var 1) EV.int)) (by simp only [List.length_append, List.length_drop, List.length_cons, List.length_nil]; omega))) AV.nil))) ?_
    show Rs.ok (im (rP (rL rAt) (rL rTb1)) (brk ats tbs nm d a g v way)) = Rs.ok _
    unfold brk
    rw [if_neg (of_decide_eq_false c1), if_neg (of_decide_eq_false c2), if_neg (of_decide_eq_false c3), if_neg (of_decide_eq_false c4), if_neg (of_decide_eq_false c5), if_pos (of_decide_eq_true c6)]
  refine HT.when (TV.eqI (EV.var 2) EV.int) (fun c7 => ?_) (fun c7 => ?_)
  · refine HT.ret (EV.pair (R := rL rAt) (S := rL rTb1) (AV.cons (EV.var 0) (AV.cons (EV.fz (EV.cat (EV.fz (EV.lst (R := rTb1) (as := [(nm, [(a, g.drop 1)] ++ d.drop 1)]) (AV.cons (EV.pair (R := rS) (S := rDmP) (AV.cons (EV.var 3) (AV.cons (EV.fz (EV.cat (EV.fz (EV.lst (R := rDm1) (as := [(a, g.drop 1)]) (AV.cons (EV.pair (R := rS) (S := rL (rL rS)) (AV.cons (EV.ixP0 (x := a) (y := g) (R := rS) (S := rL (rL rS)) (EV.var 5)) (AV.cons (EV.fz (EV.from (m := 1) (EV.ixP1 (x := a) (y := g) (R := rS) (S := rL (rL rS)) (EV.var 5)) EV.int)) AV.nil))) AV.nil) rfl (by show 1 ≤ 1000; decide))) (EV.fz (EV.from (m := 1) (EV.var 4) EV.int)) (by simp only [List.length_append, List.length_drop, List.length_cons, List.length_nil]; omega))) AV.nil))) AV.nil) rfl (by show 1 ≤ 1000; decide))) (EV.fz (EV.from (m := 1) (EV.var 1) EV.int)) (by simp only [List.length_append, List.length_drop, List.length_cons, List.length_nil]; omega))) AV.nil))) ?_
    show Rs.ok (im (rP (rL rAt) (rL rTb1)) (brk ats tbs nm d a g v way)) = Rs.ok _
    unfold brk
    rw [if_neg (of_decide_eq_false c1), if_neg (of_decide_eq_false c2), if_neg (of_decide_eq_false c3), if_neg (of_decide_eq_false c4), if_neg (of_decide_eq_false c5), if_neg (of_decide_eq_false c6), if_pos (of_decide_eq_true c7)]
  refine HT.when (TV.eqI (EV.var 2) EV.int) (fun c8 => ?_) (fun c8 => ?_)
  · refine HT.ret (EV.pair (R := rL rAt) (S := rL rTb1) (AV.cons (EV.var 0) (AV.cons (EV.fz (EV.cat (EV.fz (EV.lst (R := rTb1) (as := [(nm, [(a, g ++ [[v]])] ++ d.drop 1)]) (AV.cons (EV.pair (R := rS) (S := rDmP) (AV.cons (EV.var 3) (AV.cons (EV.fz (EV.cat (EV.fz (EV.lst (R := rDm1) (as := [(a, g ++ [[v]])]) (AV.cons (EV.pair (R := rS) (S := rL (rL rS)) (AV.cons (EV.ixP0 (x := a) (y := g) (R := rS) (S := rL (rL rS)) (EV.var 5)) (AV.cons (EV.fz (EV.cat (EV.ixP1 (x := a) (y := g) (R := rS) (S := rL (rL rS)) (EV.var 5)) (EV.fz (EV.lst (R := rL rS) (as := [[v]]) (AV.cons (EV.fz (EV.lst (R := rS) (as := [v]) (AV.cons (EV.ixL (EV.ixL (EV.ixP1 (x := a) (y := g) (R := rS) (S := rL (rL rS)) (EV.var 5)) EV.int h3) EV.int h4) AV.nil) rfl (by show 1 ≤ 1000; decide))) AV.nil) rfl (by show 1 ≤ 1000; decide))) (by simp only [List.length_append, List.length_drop, List.length_cons, List.length_nil]; omega))) AV.nil))) AV.nil) rfl (by show 1 ≤ 1000; decide))) (EV.fz (EV.from (m := 1) (EV.var 4) EV.int)) (by simp only [List.length_append, List.length_drop, List.length_cons, List.length_nil]; omega))) AV.nil))) AV.nil) rfl (by show 1 ≤ 1000; decide))) (EV.fz (EV.from (m := 1) (EV.var 1) EV.int)) (by simp only [List.length_append, List.length_drop, List.length_cons, List.length_nil]; omega))) AV.nil))) ?_
    show Rs.ok (im (rP (rL rAt) (rL rTb1)) (brk ats tbs nm d a g v way)) = Rs.ok _
    unfold brk
    rw [if_neg (of_decide_eq_false c1), if_neg (of_decide_eq_false c2), if_neg (of_decide_eq_false c3), if_neg (of_decide_eq_false c4), if_neg (of_decide_eq_false c5), if_neg (of_decide_eq_false c6), if_neg (of_decide_eq_false c7), if_pos (of_decide_eq_true c8)]
  refine HT.when (TV.eqI (EV.var 2) EV.int) (fun c9 => ?_) (fun c9 => ?_)
  · refine HT.ret (EV.pair (R := rL rAt) (S := rL rTb1) (AV.cons (EV.var 0) (AV.cons (EV.fz (EV.cat (EV.fz (EV.lst (R := rTb1) (as := [(nm, [(a, g ++ [[]])] ++ d.drop 1)]) (AV.cons (EV.pair (R := rS) (S := rDmP) (AV.cons (EV.var 3) (AV.cons (EV.fz (EV.cat (EV.fz (EV.lst (R := rDm1) (as := [(a, g ++ [[]])]) (AV.cons (EV.pair (R := rS) (S := rL (rL rS)) (AV.cons (EV.ixP0 (x := a) (y := g) (R := rS) (S := rL (rL rS)) (EV.var 5)) (AV.cons (EV.fz (EV.cat (EV.ixP1 (x := a) (y := g) (R := rS) (S := rL (rL rS)) (EV.var 5)) (EV.fz (EV.lst (R := rL rS) (as := [[]]) (AV.cons (EV.fz (EV.lst (R := rS) (as := []) AV.nil rfl (by decide))) AV.nil) rfl (by show 1 ≤ 1000; decide))) (by simp only [List.length_append, List.length_drop, List.length_cons, List.length_nil]; omega))) AV.nil))) AV.nil) rfl (by show 1 ≤ 1000; decide))) (EV.fz (EV.from (m := 1) (EV.var 4) EV.int)) (by simp only [List.length_append, List.length_drop, List.length_cons, List.length_nil]; omega))) AV.nil))) AV.nil) rfl (by show 1 ≤ 1000; decide))) (EV.fz (EV.from (m := 1) (EV.var 1) EV.int)) (by simp only [List.length_append, List.length_drop, List.length_cons, List.length_nil]; omega))) AV.nil))) ?_
    show Rs.ok (im (rP (rL rAt) (rL rTb1)) (brk ats tbs nm d a g v way)) = Rs.ok _
    unfold brk
    rw [if_neg (of_decide_eq_false c1), if_neg (of_decide_eq_false c2), if_neg (of_decide_eq_false c3), if_neg (of_decide_eq_false c4), if_neg (of_decide_eq_false c5), if_neg (of_decide_eq_false c6), if_neg (of_decide_eq_false c7), if_neg (of_decide_eq_false c8), if_pos (of_decide_eq_true c9)]
  refine HT.when (TV.eqI (EV.var 2) EV.int) (fun c10 => ?_) (fun c10 => ?_)
  · refine HT.ret (EV.pair (R := rL rAt) (S := rL rTb1) (AV.cons (EV.var 0) (AV.cons (EV.fz (EV.cat (EV.var 1) (EV.fz (EV.lst (R := rTb1) (as := [("again", [(a, g)])]) (AV.cons (EV.pair (R := rS) (S := rDmP) (AV.cons EV.str (AV.cons (EV.fz (EV.lst (R := rDm1) (as := [(a, g)]) (AV.cons (EV.var 5) AV.nil) rfl (by show 1 ≤ 1000; decide))) AV.nil))) AV.nil) rfl (by show 1 ≤ 1000; decide))) (by simp only [List.length_append, List.length_drop, List.length_cons, List.length_nil]; omega))) AV.nil))) ?_
    show Rs.ok (im (rP (rL rAt) (rL rTb1)) (brk ats tbs nm d a g v way)) = Rs.ok _
    unfold brk
    rw [if_neg (of_decide_eq_false c1), if_neg (of_decide_eq_false c2), if_neg (of_decide_eq_false c3), if_neg (of_decide_eq_false c4), if_neg (of_decide_eq_false c5), if_neg (of_decide_eq_false c6), if_neg (of_decide_eq_false c7), if_neg (of_decide_eq_false c8), if_neg (of_decide_eq_false c9), if_pos (of_decide_eq_true c10)]
  refine HT.when (TV.eqI (EV.var 2) EV.int) (fun c11 => ?_) (fun c11 => ?_)
  · refine HT.ret (EV.pair (R := rL rAt) (S := rL rTb1) (AV.cons (EV.var 0) (AV.cons (EV.catC (EV.var 1) (Ev1.l1 (Ev1.pr (R := rS) (S := rDmP) Ev1.str Ev1.nil)) (by simp only [List.length_append, List.length_drop, List.length_cons, List.length_nil]; omega)) AV.nil))) ?_
    show Rs.ok (im (rP (rL rAt) (rL rTb1)) (brk ats tbs nm d a g v way)) = Rs.ok _
    unfold brk
    rw [if_neg (of_decide_eq_false c1), if_neg (of_decide_eq_false c2), if_neg (of_decide_eq_false c3), if_neg (of_decide_eq_false c4), if_neg (of_decide_eq_false c5), if_neg (of_decide_eq_false c6), if_neg (of_decide_eq_false c7), if_neg (of_decide_eq_false c8), if_neg (of_decide_eq_false c9), if_neg (of_decide_eq_false c10), if_pos (of_decide_eq_true c11)]
  refine HT.when (TV.eqI (EV.var 2) EV.int) (fun c12 => ?_) (fun c12 => ?_)
  · refine HT.ret (EV.pair (R := rL rAt) (S := rL rTb1) (AV.cons (EV.var 0) (AV.cons (EV.fz (EV.lst (R := rTb1) (as := []) AV.nil rfl (by decide))) AV.nil))) ?_
    show Rs.ok (im (rP (rL rAt) (rL rTb1)) (brk ats tbs nm d a g v way)) = Rs.ok _
    unfold brk
    rw [if_neg (of_decide_eq_false c1), if_neg (of_decide_eq_false c2), if_neg (of_decide_eq_false c3), if_neg (of_decide_eq_false c4), if_neg (of_decide_eq_false c5), if_neg (of_decide_eq_false c6), if_neg (of_decide_eq_false c7), if_neg (of_decide_eq_false c8), if_neg (of_decide_eq_false c9), if_neg (of_decide_eq_false c10), if_neg (of_decide_eq_false c11), if_pos (of_decide_eq_true c12)]
  refine HT.when (TV.eqI (EV.var 2) EV.int) (fun c13 => ?_) (fun c13 => ?_)
  · refine HT.ret (EV.pair (R := rL rAt) (S := rL rTb1) (AV.cons (EV.fz (EV.lst (R := rAt) (as := []) AV.nil rfl (by decide))) (AV.cons (EV.var 1) AV.nil))) ?_
    show Rs.ok (im (rP (rL rAt) (rL rTb1)) (brk ats tbs nm d a g v way)) = Rs.ok _
    unfold brk
    rw [if_neg (of_decide_eq_false c1), if_neg (of_decide_eq_false c2), if_neg (of_decide_eq_false c3), if_neg (of_decide_eq_false c4), if_neg (of_decide_eq_false c5), if_neg (of_decide_eq_false c6), if_neg (of_decide_eq_false c7), if_neg (of_decide_eq_false c8), if_neg (of_decide_eq_false c9), if_neg (of_decide_eq_false c10), if_neg (of_decide_eq_false c11), if_neg (of_decide_eq_false c12), if_pos (of_decide_eq_true c13)]
  refine HT.ret (EV.pair (R := rL rAt) (S := rL rTb1) (AV.cons (EV.catC (EV.var 0) (Ev1.l1 (Ev1.pr (R := rS) (S := rL rS) Ev1.str (Ev1.l2 Ev1.str Ev1.str))) (by simp only [List.length_append, List.length_drop, List.length_cons, List.length_nil]; omega)) (AV.cons (EV.catC (EV.var 1) (Ev1.l1 (Ev1.pr (R := rS) (S := rDmP) Ev1.str (Ev1.l1 (Ev1.pr (R := rS) (S := rL (rL rS)) Ev1.str (Ev1.l1 (Ev1.l2 Ev1.str Ev1.str)))))) (by simp only [List.length_append, List.length_drop, List.length_cons, List.length_nil]; omega)) AV.nil))) ?_
  show Rs.ok (im (rP (rL rAt) (rL rTb1)) (brk ats tbs nm d a g v way)) = Rs.ok _
  unfold brk
  rw [if_neg (of_decide_eq_false c1), if_neg (of_decide_eq_false c2), if_neg (of_decide_eq_false c3), if_neg (of_decide_eq_false c4), if_neg (of_decide_eq_false c5), if_neg (of_decide_eq_false c6), if_neg (of_decide_eq_false c7), if_neg (of_decide_eq_false c8), if_neg (of_decide_eq_false c9), if_neg (of_decide_eq_false c10), if_neg (of_decide_eq_false c11), if_neg (of_decide_eq_false c12), if_neg (of_decide_eq_false c13)]
end
end K2

namespace K2
open PySem L2 Evl Lg PyProof.Rows
abbrev SmA1 (p : Str × List Str) : Prop := p.1.length ≤ 12 ∧ p.2.length ≤ 5 ∧ (∀ z ∈ p.2, PyData.strOk z = true) ∧ ∀ z ∈ p.2, z.length ≤ 12
abbrev SmD1 (q : Str × Gp) : Prop := q.1.length ≤ 12 ∧ q.2.length ≤ 5 ∧ q.2.flatten.length ≤ 5 ∧ (∀ z ∈ q.2.flatten, PyData.strOk z = true) ∧ ∀ z ∈ q.2.flatten, z.length ≤ 12
def SmA (l : At) : Prop := l.length ≤ 5 ∧ ∀ p ∈ l, SmA1 p
def SmD (d : Dm) : Prop := d.length ≤ 3 ∧ ∀ q ∈ d, SmD1 q
def SmT (t : Tb) : Prop := t.length ≤ 4 ∧ ∀ p ∈ t, p.1.length ≤ 12 ∧ SmD p.2
theorem prod5 : ∀ (l : Dm), (∀ p ∈ l, p.2.length ≤ 5) → 0 ≤ prodC l ∧ prodC l ≤ 5 ^ l.length
  | [], _ => ⟨by decide, by decide⟩
  | (a, g) :: l, h => by
    obtain ⟨h1, h2⟩ := prod5 l fun p hp => h p (List.mem_cons_of_mem _ hp)
    have hg : g.length ≤ 5 := h _ List.mem_cons_self
    have e : prodC ((a, g) :: l) = (g.length : Int) * prodC l := rfl
    rw [e, List.length_cons, Int.pow_succ]
    refine ⟨Int.mul_nonneg (by omega) h1, ?_⟩
    rw [Int.mul_comm]
    exact Int.mul_le_mul h2 (by omega) (by omega) (Int.le_trans h1 h2)
theorem SmA.ok {l : At} (h : SmA l) : AtOk l := ⟨by have := h.1; omega, fun p hp => by
  obtain ⟨q1, q2, q3, q4⟩ := h.2 p hp
  exact ⟨by omega, by omega, q3, fun v hv => by have := q4 v hv; omega⟩⟩
theorem SmD.ok {d : Dm} (h : SmD d) : DmOk d := ⟨by have := h.1; omega, fun q hq => by
  obtain ⟨q1, q2, q3, q4, q5⟩ := h.2 q hq
  exact ⟨by omega, by omega, by omega, q4, fun v hv => by have := q5 v hv; omega⟩⟩
theorem SmD.pr {d : Dm} (h : SmD d) : PrOk d := fun k => by
  have h1 := (prod5 (d.take k) fun p hp => (h.2 p (List.mem_of_mem_take hp)).2.1).2
  have h2 : (d.take k).length ≤ 3 := by
    rw [List.length_take]
    have := h.1
    omega
  have h3 : (5 : Int) ^ (d.take k).length ≤ 125 := by
    have : ∀ m ∈ List.range 4, (5 : Int) ^ m ≤ 125 := by decide
    exact this _ (List.mem_range.mpr (by omega))
  omega
theorem SmT.ok {t : Tb} (h : SmT t) : TbOk t := ⟨by have := h.1; omega, fun p hp => ⟨by have := (h.2 p hp).1; omega, (h.2 p hp).2.ok⟩⟩
theorem FineAts.sm {ats : At} (h : FineAts ats) : ats.length ≤ 4 ∧ ∀ p ∈ ats, SmA1 p := ⟨h.2.1, fun p hp => by
  obtain ⟨q1, q2, _, _, _, q5, q6, q7, _⟩ := first_ok p (h.2.2 p hp)
  exact ⟨q1, by omega, q7, q6⟩⟩
theorem DmFor.sm {ats : At} (h : FineAts ats) {q : Str × Gp} (hq : DmFor ats q) : SmD1 q := by
  obtain ⟨h1, h2, h3, h4, h5, h6, h7⟩ := hq.ok h
  exact ⟨h1, by omega, by omega, h6, h7⟩
theorem FineTb.sm {ats : At} (h : FineAts ats) {t : Tb} (ht : FineTb ats t) : t.length ≤ 3 ∧ ∀ p ∈ t, p.1.length ≤ 12 ∧ SmD p.2 := ⟨ht.l, fun p hp => ⟨(tnames_ok _ (ht.n p hp)).1, by have := (ht.d p hp).1; omega, fun q hq => ((ht.d p hp).2 q hq).sm h⟩⟩
theorem smA_add {ats : At} (h : FineAts ats) {p : Str × List Str} (hp : SmA1 p) : SmA (ats ++ [p]) := ⟨by rw [List.length_append]; have := h.2.1; show ats.length + 1 ≤ 5; omega, fun q hq => by
  rcases List.mem_append.mp hq with z | z
  · exact h.sm.2 q z
  · rw [List.mem_singleton.mp z]; exact hp⟩
theorem smT_add {ats : At} (h : FineAts ats) {t : Tb} (ht : FineTb ats t) {p : Str × Dm} (hp : p.1.length ≤ 12 ∧ SmD p.2) : SmT (t ++ [p]) := ⟨by rw [List.length_append]; have := ht.l; show t.length + 1 ≤ 4; omega, fun q hq => by
  rcases List.mem_append.mp hq with z | z
  · exact (ht.sm h).2 q z
  · rw [List.mem_singleton.mp z]; exact hp⟩
theorem smT_rep {ats : At} (h : FineAts ats) {t : Tb} (ht : FineTb ats t) {p : Str × Dm} (hp : p.1.length ≤ 12 ∧ SmD p.2) : SmT ([p] ++ t.drop 1) := ⟨by rw [List.length_append, List.length_drop]; have := ht.l; show 1 + (t.length - 1) ≤ 4; omega, fun q hq => by
  rcases List.mem_append.mp hq with z | z
  · rw [List.mem_singleton.mp z]; exact hp
  · exact (ht.sm h).2 q (List.mem_of_mem_drop z)⟩
theorem smD_rep {ats : At} (h : FineAts ats) {d : Dm} (hl : d.length ≤ 2) (hd : ∀ q ∈ d, DmFor ats q) {p : Str × Gp} (hp : SmD1 p) : SmD ([p] ++ d.drop 1) := ⟨by rw [List.length_append, List.length_drop]; show 1 + (d.length - 1) ≤ 3; omega, fun q hq => by
  rcases List.mem_append.mp hq with z | z
  · rw [List.mem_singleton.mp z]; exact hp
  · exact (hd q (List.mem_of_mem_drop z)).sm h⟩
section
variable {ats : At} {tbs : Tb} {nm : Str} {d : Dm} {a : Str} {g : Gp} {v : Str}
theorem Parts.nd (hP : Parts ats tbs nm d a g v) (ht : FineTb ats tbs) : nm ∈ tnames ∧ d.length ≤ 2 ∧ ∀ q ∈ d, DmFor ats q := by
  obtain ⟨r, e⟩ := hP.t
  have hm : (nm, d) ∈ tbs := by rw [e]; exact List.mem_cons_self
  exact ⟨ht.n _ hm, ht.d _ hm⟩
theorem Parts.q (hP : Parts ats tbs nm d a g v) (ht : FineTb ats tbs) : DmFor ats (a, g) := by
  obtain ⟨r, e⟩ := hP.d
  exact (hP.nd ht).2.2 _ (by rw [e]; exact List.mem_cons_self)
theorem sub_g (hs : SmD1 (a, g)) (h4 : g.length ≤ 4) (h5 : g.flatten.length ≤ 4) (hv : v ∈ g.flatten) : SmD1 (a, g ++ [[v]]) ∧ SmD1 (a, g ++ [[]]) ∧ SmD1 (a, g.drop 1) := by
  obtain ⟨q1, q2, q3, q4, q5⟩ := hs
  have q4 : ∀ z ∈ g.flatten, PyData.strOk z = true := q4
  have q5 : ∀ z ∈ g.flatten, z.length ≤ 12 := q5
  have e7 : g.flatten = (g.take 1).flatten ++ (g.drop 1).flatten := by rw [← List.flatten_append, List.take_append_drop]
  have e8 : (g ++ [[v]]).flatten = g.flatten ++ [v] := by rw [List.flatten_append]; rfl
  have e9 : (g ++ [([] : List Str)]).flatten = g.flatten := by rw [List.flatten_append]; exact List.append_nil _
  refine ⟨⟨q1, ?_, ?_, ?_, ?_⟩, ⟨q1, ?_, ?_, ?_, ?_⟩, ⟨q1, ?_, ?_, ?_, ?_⟩⟩
  · rw [List.length_append]; show g.length + 1 ≤ 5; omega
  · show (g ++ [[v]]).flatten.length ≤ 5
    rw [e8, List.length_append]; show g.flatten.length + 1 ≤ 5; omega
  · show ∀ z ∈ (g ++ [[v]]).flatten, _
    rw [e8]
    intro z hz
    rcases List.mem_append.mp hz with y | y
    · exact q4 z y
    · rw [List.mem_singleton.mp y]; exact q4 v hv
  · show ∀ z ∈ (g ++ [[v]]).flatten, _
    rw [e8]
    intro z hz
    rcases List.mem_append.mp hz with y | y
    · exact q5 z y
    · rw [List.mem_singleton.mp y]; exact q5 v hv
  · rw [List.length_append]; show g.length + 1 ≤ 5; omega
  · show (g ++ [([] : List Str)]).flatten.length ≤ 5
    rw [e9]; omega
  · show ∀ z ∈ (g ++ [([] : List Str)]).flatten, _
    rw [e9]; exact q4
  · show ∀ z ∈ (g ++ [([] : List Str)]).flatten, _
    rw [e9]; exact q5
  · show (g.drop 1).length ≤ 5
    rw [List.length_drop]; omega
  · show (g.drop 1).flatten.length ≤ 5
    rw [e7, List.length_append] at h5
    omega
  · exact fun z hz => q4 z (by rw [e7]; exact List.mem_append_right _ hz)
  · exact fun z hz => q5 z (by rw [e7]; exact List.mem_append_right _ hz)
theorem brk_ind (Q : At × Tb → Prop) (way : Int) (h1 : Q (ats ++ ([("Bad", ["a", "b"])] : At), tbs)) (h2 : Q (ats ++ [ats.headD ("", [])], tbs)) (h3 : Q (ats ++ ([("new", ["a", "b", "a"])] : At), tbs)) (h4 : Q (ats ++ ([("new", ["a"])] : At), tbs)) (h5 : Q (ats, tbs ++ [(nm, d)])) (h6 : Q (ats, ([("x_y", d)] : Tb) ++ tbs.drop 1)) (h7 : Q (ats, [(nm, [(a, g.drop 1)] ++ d.drop 1)] ++ tbs.drop 1)) (h8 : Q (ats, [(nm, [(a, g ++ [[v]])] ++ d.drop 1)] ++ tbs.drop 1)) (h9 : Q (ats, [(nm, [(a, g ++ [[]])] ++ d.drop 1)] ++ tbs.drop 1)) (h10 : Q (ats, tbs ++ ([("again", [(a, g)])] : Tb))) (h11 : Q (ats, tbs ++ ([("none", [])] : Tb))) (h12 : Q (ats, [])) (h13 : Q ([], tbs)) (h14 : Q (ats ++ ([("new", ["a", "b"])] : At), tbs ++ ([("single", [("new", [["a", "b"]])])] : Tb))) : Q (brk ats tbs nm d a g v way) := by
  unfold brk
  by_cases c1 : way = 1
  · rw [if_pos c1]; exact h1
  rw [if_neg c1]
  by_cases c2 : way = 2
  · rw [if_pos c2]; exact h2
  rw [if_neg c2]
  by_cases c3 : way = 3
  · rw [if_pos c3]; exact h3
  rw [if_neg c3]
  by_cases c4 : way = 4
  · rw [if_pos c4]; exact h4
  rw [if_neg c4]
  by_cases c5 : way = 5
  · rw [if_pos c5]; exact h5
  rw [if_neg c5]
  by_cases c6 : way = 6
  · rw [if_pos c6]; exact h6
  rw [if_neg c6]
  by_cases c7 : way = 7
  · rw [if_pos c7]; exact h7
  rw [if_neg c7]
  by_cases c8 : way = 8
  · rw [if_pos c8]; exact h8
  rw [if_neg c8]
  by_cases c9 : way = 9
  · rw [if_pos c9]; exact h9
  rw [if_neg c9]
  by_cases c10 : way = 10
  · rw [if_pos c10]; exact h10
  rw [if_neg c10]
  by_cases c11 : way = 11
  · rw [if_pos c11]; exact h11
  rw [if_neg c11]
  by_cases c12 : way = 12
  · rw [if_pos c12]; exact h12
  rw [if_neg c12]
  by_cases c13 : way = 13
  · rw [if_pos c13]; exact h13
  rw [if_neg c13]
  exact h14
theorem brk_sm (hf : FineAts ats) (ht : FineTb ats tbs) (hP : Parts ats tbs nm d a g v) (way : Int) : SmA (brk ats tbs nm d a g v way).1 ∧ SmT (brk ats tbs nm d a g v way).2 := by
  have A0 : SmA ats := ⟨by have := hf.2.1; omega, hf.sm.2⟩
  have T0 : SmT tbs := ⟨by have := ht.l; omega, (ht.sm hf).2⟩
  obtain ⟨n1, n2, n3⟩ := hP.nd ht
  have nl := (tnames_ok _ n1).1
  have hq := hP.q ht
  obtain ⟨_, _, o3, o4, _⟩ := hq.ok hf
  have o3 : g.flatten.length ≤ 4 := o3
  have o4 : g.length ≤ 4 := o4
  have hq1 := hq.sm hf
  obtain ⟨x, gr, eg⟩ := hP.g
  have hv : v ∈ g.flatten := by rw [eg]; exact List.mem_append_left _ List.mem_cons_self
  obtain ⟨s8, s9, s7⟩ := sub_g hq1 o4 o3 hv
  have hd : SmD d := ⟨by omega, fun q hq => (n3 q hq).sm hf⟩
  have h0 : SmA1 (ats.headD ("", [])) := by
    cases e : ats with
    | nil => exact absurd e hf.ne
    | cons p r => exact hf.sm.2 p (by rw [e]; exact List.mem_cons_self)
  refine brk_ind (Q := fun r => SmA r.1 ∧ SmT r.2) way ?_ ?_ ?_ ?_ ?_ ?_ ?_ ?_ ?_ ?_ ?_ ?_ ?_ ?_
  · exact ⟨smA_add hf (by decide +kernel), T0⟩
  · exact ⟨smA_add hf h0, T0⟩
  · exact ⟨smA_add hf (by decide +kernel), T0⟩
  · exact ⟨smA_add hf (by decide +kernel), T0⟩
  · exact ⟨A0, smT_add hf ht ⟨nl, hd⟩⟩
  · exact ⟨A0, smT_rep hf ht ⟨by show ("x_y" : Str).length ≤ 12; decide +kernel, hd⟩⟩
  · exact ⟨A0, smT_rep hf ht ⟨nl, smD_rep hf n2 n3 s7⟩⟩
  · exact ⟨A0, smT_rep hf ht ⟨nl, smD_rep hf n2 n3 s8⟩⟩
  · exact ⟨A0, smT_rep hf ht ⟨nl, smD_rep hf n2 n3 s9⟩⟩
  · exact ⟨A0, smT_add hf ht ⟨by show ("again" : Str).length ≤ 12; decide +kernel, by show 1 ≤ 3; decide, fun q hq => by rw [List.mem_singleton.mp hq]; exact hq1⟩⟩
  · exact ⟨A0, smT_add hf ht ⟨by show ("none" : Str).length ≤ 12; decide +kernel, by show 0 ≤ 3; decide, fun q hq => nomatch hq⟩⟩
  · exact ⟨A0, by show 0 ≤ 4; decide, fun q hq => nomatch hq⟩
  · exact ⟨⟨by show 0 ≤ 5; decide, fun q hq => nomatch hq⟩, T0⟩
  · refine ⟨smA_add hf (by decide +kernel), smT_add hf ht ⟨by show ("single" : Str).length ≤ 12; decide +kernel, by show 1 ≤ 3; decide, fun q hq => ?_⟩⟩
    rw [List.mem_singleton.mp hq]
    decide +kernel
theorem attrs_add {ats : At} {p : Str × List Str} (h : attrB (ats.map (·.1)) p.1 p.2 = false) : attrsB (ats ++ [p]) = false := by
  unfold attrsB
  rw [aseqB_app]
  show ((aseqB [] ats && (attrB ([] ++ ats.map (·.1)) p.1 p.2 && true)) && _) = false
  rw [List.nil_append, h]; simp
theorem tables_add {ats : At} {t : Tb} {p : Str × Dm} (h : tableB ats t p.1 p.2 = false) : tablesB ats (t ++ [p]) = false := by
  unfold tablesB
  rw [tseqB_app]
  show ((tseqB ats [] t && (tableB ats ([] ++ t) p.1 p.2 && true)) && _) = false
  rw [List.nil_append, h]; simp
theorem tables_rep {ats : At} {t : Tb} {p : Str × Dm} (h : tableB ats [] p.1 p.2 = false) : tablesB ats ([p] ++ t) = false := by
  unfold tablesB
  show ((tableB ats [] p.1 p.2 && _) && _) = false
  rw [h]; rfl
theorem dims_bad {ats : At} {U : List Str} {a : Str} {g : Gp} {r : Dm} (h : groupB (valsOf ats a) g = false) : dimsB ats U ([(a, g)] ++ r) = false := by
  show (if !decide (a ∈ ats.map (·.1)) || decide (a ∈ U) then false else if !groupB (valsOf ats a) g then false else dimsB ats (U ++ [a]) r) = false
  rw [h]
  split <;> rfl
theorem table_bad {ats : At} {U : Tb} {n : Str} {d : Dm} (h : dimsB ats (usedT U) d = false) : tableB ats U n d = false := by
  unfold tableB
  rw [h]
  split <;> rfl
theorem group_len {vs : List Str} {g : Gp} (h : g.flatten.length ≠ vs.length) : groupB vs g = false := by
  unfold groupB
  split
  · rfl
  · exact decide_eq_false fun z => h z.length_eq
theorem brk_bad (hf : FineAts ats) (ht : FineTb ats tbs) (hP : Parts ats tbs nm d a g v) {way : Int} : (attrsB (brk ats tbs nm d a g v way).1 && tablesB (brk ats tbs nm d a g v way).1 (brk ats tbs nm d a g v way).2) = false := by
  have ka : ∀ {l : At} {t : Tb}, attrsB l = false → (attrsB l && tablesB l t) = false := fun h => by rw [h]; rfl
  have kt : ∀ {l : At} {t : Tb}, tablesB l t = false → (attrsB l && tablesB l t) = false := fun h => by rw [h, Bool.and_false]
  obtain ⟨x, gr, eg⟩ := hP.g
  have hq := hP.q ht
  obtain ⟨p, hp, hpa, hg⟩ := hq
  have hpa : a = p.1 := hpa
  have hg : GpFor p.2 g := hg
  have hvals : valsOf ats a = p.2 := by rw [hpa]; exact hf.vals hp
  have hlen : g.flatten.length = (valsOf ats a).length := by rw [hvals]; exact hg.1.length_eq
  obtain ⟨tr, et⟩ := hP.t
  obtain ⟨dr, ed⟩ := hP.d
  refine brk_ind (Q := fun r => (attrsB r.1 && tablesB r.1 r.2) = false) way ?_ ?_ ?_ ?_ ?_ ?_ ?_ ?_ ?_ ?_ ?_ ?_ ?_ ?_
  · refine ka (attrs_add ?_)
    unfold attrB
    rw [if_pos (by rw [show nameB ("Bad", (["a", "b"] : List Str)).1 = false by decide +kernel]; rfl)]
  · refine ka (attrs_add ?_)
    unfold attrB
    rw [if_pos]
    have : (ats.headD ("", [])).1 ∈ ats.map (·.1) := by
      cases e : ats with
      | nil => exact absurd e hf.ne
      | cons q r => exact List.mem_cons_self
    rw [decide_eq_true this, Bool.or_true]
  · refine ka (attrs_add ?_)
    unfold attrB
    split
    · rfl
    · rw [if_pos (by decide +kernel)]
  · refine ka (attrs_add ?_)
    unfold attrB
    split
    · rfl
    · rw [if_pos (by decide +kernel)]
  · refine kt (tables_add ?_)
    unfold tableB
    rw [if_pos]
    have : nm ∈ tbs.map (·.1) := by rw [et]; exact List.mem_cons_self
    show (!nameB nm || decide (nm ∈ tbs.map (·.1))) = true
    rw [decide_eq_true this, Bool.or_true]
  · refine kt (tables_rep ?_)
    unfold tableB
    rw [if_pos]
    show (!nameB "x_y" || _) = true
    rw [show nameB "x_y" = false by decide +kernel]; rfl
  · refine kt (tables_rep (table_bad (dims_bad (group_len ?_))))
    rw [← hlen, eg]
    show gr.flatten.length ≠ ((v :: x) ++ gr.flatten).length
    rw [List.length_append, List.length_cons]; omega
  · refine kt (tables_rep (table_bad (dims_bad (group_len ?_))))
    rw [← hlen, List.flatten_append, List.length_append]
    show g.flatten.length + 1 ≠ _
    omega
  · refine kt (tables_rep (table_bad (dims_bad ?_)))
    unfold groupB
    rw [if_pos]
    rw [List.all_append]
    show (!(_ && (decide (0 < (0 : Int)) && true))) = true
    simp
  · refine kt (tables_add (table_bad ?_))
    show (if !decide (a ∈ ats.map (·.1)) || decide (a ∈ usedT tbs) then false else _) = false
    rw [if_pos]
    have : a ∈ usedT tbs := by
      unfold usedT
      rw [et, List.flatMap_cons, ed]
      exact List.mem_append_left _ List.mem_cons_self
    rw [decide_eq_true this, Bool.or_true]
  · refine kt (tables_add ?_)
    unfold tableB
    split
    · rfl
    · rw [show prodC ("none", ([] : Dm)).2 = 1 from rfl]; simp
  · exact kt rfl
  · exact ka rfl
  · refine kt (tables_add ?_)
    unfold tableB
    split
    · rfl
    · rw [show prodC ("single", ([("new", [["a", "b"]])] : Dm)).2 = 1 from rfl]; simp
end
end K2

namespace K2
open PySem L2 Evl Lg PyProof.Rows
theorem strOk_app {a b : Str} (h : PyData.strOk a = true) (k : PyData.strOk b = true) : PyData.strOk (a ++ b) = true := by
  refine Array.all_eq_true_iff_forall_mem.mpr fun c hc => ?_
  have hc : c ∈ a.cps ++ b.cps := hc
  rcases Array.mem_append.mp hc with z | z
  · exact Array.all_eq_true_iff_forall_mem.mp h c z
  · exact Array.all_eq_true_iff_forall_mem.mp k c z
theorem strOk_join {sep : Str} (hs : PyData.strOk sep = true) : ∀ (l : List Str), StrsOk l → PyData.strOk (Str.join sep l) = true
  | [], _ => by show PyData.strOk Str.empty = true; decide +kernel
  | [x], h => h x List.mem_cons_self
  | x :: y :: r, h => strOk_app (strOk_app (h x List.mem_cons_self) hs) (strOk_join hs (y :: r) fun z hz => h z (List.mem_cons_of_mem _ hz))
theorem gnames_ok {g : Gp} (h : StrsOk g.flatten) : StrsOk (gnames g) := fun z hz => by
  obtain ⟨x, hx, rfl⟩ := List.mem_map.mp hz
  exact strOk_join (by decide +kernel) x fun z hz => h z (List.mem_flatten.mpr ⟨x, hx, hz⟩)
theorem cnames_ok : ∀ (r : Dm) (ns : List Str), StrsOk ns → (∀ q ∈ r, StrsOk q.2.flatten) → StrsOk (cnames ns r)
  | [], ns, h, _ => h
  | (a, g) :: r, ns, h, k => cnames_ok r _ (fun z hz => by
    obtain ⟨n, hn, hz⟩ := List.mem_flatMap.mp hz
    obtain ⟨x, hx, rfl⟩ := List.mem_map.mp hz
    exact strOk_app (h n hn) (strOk_app (by decide +kernel) (gnames_ok (k (a, g) List.mem_cons_self) x hx))) fun q hq => k q (List.mem_cons_of_mem _ hq)
theorem clsN_ok : ∀ (d : Dm), (∀ q ∈ d, StrsOk q.2.flatten) → StrsOk (clsN d)
  | [], _ => fun _ h => nomatch h
  | (a, g) :: r, k => cnames_ok r _ (gnames_ok (k (a, g) List.mem_cons_self)) fun q hq => k q (List.mem_cons_of_mem _ hq)
theorem zip_find (a : Str) : ∀ (ns vs : List Str), vs.length = ns.length → a ∈ ns → ∃ v, vs[(ns.findIdx? fun x => decide (x = a)).getD 0]? = some v ∧ (ns.zip vs).find? (fun p => decide (p.1 = a)) = some (a, v)
  | [], _, _, h => nomatch h
  | n :: ns, [], h, _ => by simp at h
  | n :: ns, v :: vs, h, hm => by
    by_cases e : n = a
    · refine ⟨v, ?_, ?_⟩
      · rw [List.findIdx?_cons, decide_eq_true e]; rfl
      · rw [List.zip_cons_cons, List.find?_cons, decide_eq_true e, e]
    · have hm : a ∈ ns := (List.mem_cons.mp hm).resolve_left fun z => e z.symm
      obtain ⟨v', h1, h2⟩ := zip_find a ns vs (by simpa using h) hm
      refine ⟨v', ?_, ?_⟩
      · rw [List.findIdx?_cons, decide_eq_false e]
        cases q : ns.findIdx? fun x => decide (x = a) with
        | none =>
          rw [List.findIdx?_eq_none_iff] at q
          have := q a hm
          simp at this
        | some k => rw [q] at h1; exact h1
      · rw [List.zip_cons_cons, List.find?_cons, decide_eq_false e]; exact h2
theorem pl_get {ats : At} {vs : List Str} {a : Str} (h : vs.length = ats.length) (ha : a ∈ ats.map (·.1)) : ∃ v, vs[posN ats a]? = some v ∧ kget (kvS ((ats.map (·.1)).zip vs)) (Sum.inr a) = some v := by
  obtain ⟨v, h1, h2⟩ := zip_find a (ats.map (·.1)) vs (by rw [List.length_map]; exact h) ha
  refine ⟨v, h1, ?_⟩
  rw [kget_kvS, h2]; rfl
theorem grp_head {g : Gp} {v : Str} (hv : v ∈ g.flatten) : (((List.range g.length).filter fun k => decide (v ∈ g.getD k [])).map fun k : Nat => (k : Int))[0]? = some (grpOf g v) := by
  obtain ⟨x, hx, hvx⟩ := List.mem_flatten.mp hv
  unfold grpOf
  cases q : g.findIdx? fun x => decide (v ∈ x) with
  | none =>
    rw [List.findIdx?_eq_none_iff] at q
    have := q x hx
    simp [hvx] at this
  | some k =>
    obtain ⟨hlt, hm, hmin⟩ := List.findIdx?_eq_some_iff_getElem.mp q
    rw [List.getElem?_map, ← List.head?_eq_getElem?, List.head?_filter]
    have : (List.range g.length).find? (fun k => decide (v ∈ g.getD k [])) = some k := by
      rw [List.find?_range_eq_some]
      refine ⟨?_, List.mem_range.mpr hlt, fun j hj => ?_⟩
      · rw [List.getD_eq_getElem?_getD, List.getElem?_eq_getElem hlt]; exact hm
      · have hj2 : j < g.length := by omega
        have := hmin j hj
        rw [List.getD_eq_getElem?_getD, List.getElem?_eq_getElem hj2]
        simpa using this
    rw [this]; rfl
/-- a value of each attribute -/
def Vals (ats : At) (vs : List Str) : Prop := vs.length = ats.length ∧ ∀ (j : Nat) (p : Str × List Str), ats[j]? = some p → ∃ v, vs[j]? = some v ∧ v ∈ p.2
theorem Vals.has {ats : At} {vs : List Str} (nd : (ats.map (·.1)).Nodup) (h : Vals ats vs) : hasB ats vs = true := by
  unfold hasB
  rw [if_neg (by rw [decide_eq_true (show (vs.length : Int) = ats.length by rw [h.1])]; decide), List.all_map, List.all_eq_true]
  rintro ⟨v, n⟩ hz
  obtain ⟨j, hj⟩ := List.getElem?_of_mem hz
  rw [List.getElem?_zip_eq_some] at hj
  obtain ⟨h1, h2⟩ := hj
  rw [List.getElem?_map] at h2
  obtain ⟨p, hp, e⟩ := Option.map_eq_some_iff.mp h2
  have e : p.1 = n := e
  subst e
  obtain ⟨v', k1, k2⟩ := h.2 j p hp
  have h1 : vs[j]? = some v := h1
  rw [h1] at k1
  cases k1
  show decide (v ∈ valsOf ats p.1) = true
  rw [vals_eq ats nd p (List.mem_of_getElem? hp)]
  exact decide_eq_true k2
theorem has_len {ats : At} {vs : List Str} (h : vs.length ≠ ats.length) : hasB ats vs = false := by
  unfold hasB
  rw [if_pos]
  rw [decide_eq_false (show ¬ (vs.length : Int) = ats.length by omega)]; rfl
theorem has_none {ats : At} (hf : FineAts ats) (w : List Str) : hasB ats ((["none"] : List Str) ++ w) = false := by
  cases e : ats with
  | nil => exact absurd e hf.ne
  | cons p r =>
    have hp : p ∈ ats := by rw [e]; exact List.mem_cons_self
    have := (first_ok p (hf.2.2 p hp)).2.2.2.2.2.2.2.2
    rw [← e]
    unfold hasB
    split
    · rfl
    · have e2 : (((["none"] : List Str) ++ w).zip (ats.map (·.1))).map (fun p => decide (p.1 ∈ valsOf ats p.2)) = decide (("none" : Str) ∈ valsOf ats p.1) :: (w.zip (r.map (·.1))).map (fun p => decide (p.1 ∈ valsOf ats p.2)) := by
        conv => lhs; arg 2; rw [e]
        rfl
      rw [e2, hf.vals hp, decide_eq_false this]; rfl
def land : Ar := [("land", none), ("north", some "land")]
theorem land_ok : treeB land = true ∧ AreasOk land := ⟨by decide +kernel, by
  refine ⟨by decide, fun p hp => ?_⟩
  have : ∀ p ∈ land, p.1.length ≤ 1000 := by decide +kernel
  exact this p hp⟩
theorem FineTb.ok {ats : At} (h : FineAts ats) {t : Tb} (ht : FineTb ats t) (hne : t ≠ []) : PlOk (land, ats, t) ∧ planB (land, ats, t) = true ∧ ∀ p ∈ t, PrOk p.2 := by
  have sm : SmT t := ⟨by have := ht.l; omega, (ht.sm h).2⟩
  have htt : tablesB ats t = true := by
    unfold tablesB
    rw [ht.b]
    cases t with
    | nil => exact absurd rfl hne
    | cons a r => rfl
  refine ⟨⟨h.ok, sm.ok, h.1, htt⟩, ?_, fun p hp => (sm.2 p hp).2.pr⟩
  unfold planB
  show (treeB land && (attrsB ats && tablesB ats t)) = true
  rw [land_ok.1, h.1, htt]; rfl
theorem parts_ex {ats : At} (h : FineAts ats) {t : Tb} (ht : FineTb ats t) (hne : t ≠ []) : ∃ nm d a g v, Parts ats t nm d a g v := by
  cases t with
  | nil => exact absurd rfl hne
  | cons p r =>
    obtain ⟨nm, d⟩ := p
    obtain ⟨U', hU⟩ := tseq_all _ _ _ ht.b _ List.mem_cons_self
    have hpr := (table_facts hU).2.2
    have hd := (ht.d _ List.mem_cons_self).2
    cases d with
    | nil => exact absurd (show (2 : Int) ≤ 1 from hpr) (by decide)
    | cons q dr =>
      obtain ⟨a, g⟩ := q
      have hq := hd (a, g) List.mem_cons_self
      have h1 := (hq.ok h).2.2.2.2.1
      obtain ⟨_, _, _, hg⟩ := hq
      cases g with
      | nil => exact absurd (show 1 ≤ 0 from h1) (by decide)
      | cons x gr =>
        cases x with
        | nil => exact absurd rfl (hg.2 [] List.mem_cons_self)
        | cons v x => exact ⟨nm, _, a, _, v, ⟨r, rfl⟩, ⟨dr, rfl⟩, x, gr, rfl⟩
end K2

namespace K2
open PySem L2 Evl Lg PyProof.Rows
structure Tq (K : PySem.W.Frag) (mg : Str → Option Value) (CP CU CR CB : Addr) : Prop where
  nm : mg "CellguardError" = some (.ref CB)
  np : mg "InvalidPlan" = some (.ref CP)
  nu : mg "UnknownName" = some (.ref CU)
  nr : mg "InvalidRecord" = some (.ref CR)
  EP : ExcC K CP
  EU : ExcC K CU
  ER : ExcC K CR
  XU : XfC K CU
  nN : PySem.W.findIn K (.ref CU) "name" = some none
  kp : PySem.W.kitOne K (.ref CP) (.ref CP) = some true
  ku : PySem.W.kitOne K (.ref CU) (.ref CU) = some true
  kr : PySem.W.kitOne K (.ref CR) (.ref CR) = some true
  xp : PySem.W.exmOne K (.ref CP) (.ref CB) = some true
  xu : PySem.W.exmOne K (.ref CU) (.ref CB) = some true
  xr : PySem.W.exmOne K (.ref CR) (.ref CB) = some true
theorem Up.rfl' {b : Bs} : Up b b := ⟨rfl, Ex.refl _, fun _ h _ => h⟩
theorem treeG (CT : Addr) : NoG isM (rTree CT) := NoG.obj fun x p hp => by
  rcases List.mem_cons.mp hp with z | hp
  · rw [z]; exact NoG.dk nf_M (NoG.opt NoG.str)
  rcases List.mem_cons.mp hp with z | hp
  · rw [z]; exact NoG.dk nf_M (NoG.lk nf_M NoG.str)
  · rw [List.mem_singleton.mp hp]; exact NoG.str
theorem planG (CPl CT : Addr) : NoG isM (rPlan CPl CT) := NoG.obj fun x p hp => by
  rcases List.mem_cons.mp hp with z | hp
  · rw [z]; exact treeG CT
  rcases List.mem_cons.mp hp with z | hp
  · rw [z]; exact NoG.dk nf_M (NoG.lk nf_M NoG.str)
  rcases List.mem_cons.mp hp with z | hp
  · rw [z]; exact NoG.dk nf_M (NoG.lk nf_M (NoG.pair nf_M NoG.str (NoG.lk nf_M (NoG.lk nf_M NoG.str))))
  rcases List.mem_cons.mp hp with z | hp
  · rw [z]; exact NoG.dk nf_M (NoG.lk nf_M NoG.str)
  · rw [List.mem_singleton.mp hp]; exact NoG.dk nf_M (NoG.lk nf_M (NoG.tri nf_M NoG.int (NoG.dk nf_M NoG.int) NoG.int))
section
variable {P : Program} {w : World} {K : PySem.W.Frag} {mg : Str → Option Value} {base : Heap} {CP CU CT CPl CR CB : Addr}
abbrev nLaw : List Str := ["script", "number", "attributes", "tables", "areas", "way", "broken", "e", "one", "handed", "plan", "table", "digits", "values", "places", "k", "due", "dimension", "group", "wrong"]
theorem scLaw : FnScope nLaw ["script"] (defScope sLaw) := ⟨rfl, rfl, rfl, by decide +kernel, rfl, by decide +kernel, by decide +kernel⟩
def spLaw (K : PySem.W.Frag) : Sp := spX (ι := List Int) (fun i => [mk (rSc K) i]) (fun i => i.length ≤ 63) (fun _ => .ok (im rB true))
theorem ok_law {f : Addr} {fd : FuncData} (F : Fun K "law" "law" sLaw f fd) (T : Tp K mg CP CU CT) (V : Tw mg) (Tq : Tq K mg CP CU CR CB) (Q : Tpl K CPl)
    (tCell : Kn P w K mg base 1 "_law_cell" ["script", "k"] (spCell K)) (tRich : Kn P w K mg base 1 "_law_rich" ["cell"] spRich)
    (tAA : Kn P w K mg base 1 "_law_any_attributes" ["number"] spAA) (tAT : Kn P w K mg base 2 "_law_any_tables" ["attributes", "number"] spAT)
    (tLC : Kn P w K mg base 1 "_law_class_names" ["dimensions"] spLC) (tBr : Kn P w K mg base 1 "_law_broken" ["attributes", "tables", "way"] spBr)
    (tI : KnI P w K mg base 6 CPl "Plan" ["self", "areas", "attributes", "tables"] (spPI CP CPl CT))
    (tN : KnM P w K mg base 1 CT "names" ["self"] (spNames CT)) (tAts : KnM P w K mg base 1 CPl "attributes" ["self"] (spAts CPl CT)) (tTbs : KnM P w K mg base 1 CPl "tables" ["self"] (spTbs CPl CT))
    (tCls : KnM P w K mg base 4 CPl "classes" ["self", "table"] (spCls CPl CT CU)) (tDi : KnM P w K mg base 4 CPl "dimensions" ["self", "table"] (spDi CPl CT CU)) (tCo : KnM P w K mg base 4 CPl "class_of" ["self", "table", "values"] (spCo CPl CT CU CR)) :
    FnOk P w K mg base (L2N.CX P w) 8 f fd ["script"] (spLaw K) := by
  refine fn_ok F scLaw (fun _ => rfl) fun ns B cdv A' outer0 s H E hp hr _ => ?_
  have hp : ns.length ≤ 63 := hp
  have nd := scLaw.nd
  have hu := u1 hr
  have tk : L2N.Takes (cxOf (L2N.CX P w) P w K mg base nLaw "law" (defScope sLaw) f cdv A' outer0 s H E) (fun cls d _ H => E cls d H) := L2N.takes_of rfl rfl rfl rfl
  conv => arg 5; whnf
  show HT _ _ _ [some (im (rSc K) ns), none, none, none, none, none, none, none, none, none, none, none, none, none, none, none, none, none, none, none] _
  have z0 : ∀ k : Int, 0 ≤ k → (0 : Int) ≤ ((ns, k) : List Int × Int).2 := fun k h => h
  refine HT.set 1 (EV.call (i := cellV ns 0) tRich (hr.mono (by decide)) tk (AV.cons (EV.call (i := (ns, 0)) tCell (hr.mono (by decide)) tk (AV.cons (EV.var 0) (AV.cons EV.int AV.nil)) (by show (0 : Int) ≤ 0; decide) rfl) AV.nil) trivial rfl) ?_ nd
  generalize richV (cellV ns 0) = num
  refine HT.set 2 (EV.call (i := num) tAA (hr.mono (by decide)) tk (AV.cons (EV.var 1) AV.nil) trivial rfl) ?_ nd
  have hf := any_fine num
  generalize anyAts num = ats at hf
  refine HT.setR 3 (EVR.call tAT (i := (ats, richV (cellV ns 1))) (hr.mono (by decide)) tk (AV.cons (EV.var 2) (AV.cons (EV.call (i := cellV ns 1) tRich (hr.mono (by decide)) tk (AV.cons (EV.call (i := (ns, 1)) tCell (hr.mono (by decide)) tk (AV.cons (EV.var 0) (AV.cons EV.int AV.nil)) (by show (0 : Int) ≤ 1; decide) rfl) AV.nil) trivial rfl) AV.nil)) hf) (fun s' hs => ?_) nd
  obtain ⟨t, ht, htne, rfl⟩ := hs
  have ht : FineTb ats t := ht
  refine HT.set 4 (EV.fz (EV.lst (R := rArea) (as := land) (AV.cons (EV.pair (R := rS) (S := rO rS) (x := "land") (y := none) (AV.cons EV.str (AV.cons (EV.non.to (S := rO rS) (y := none) fun F v h => h) AV.nil))) (AV.cons (EV.pair (R := rS) (S := rO rS) (x := "north") (y := some "land") (AV.cons EV.str (AV.cons (EV.str.to (S := rO rS) (y := some "land") fun F v h => h) AV.nil))) AV.nil)) rfl (by decide))) ?_ nd
  refine HT.set 5 (EV.mod (EV.toInt (AV.cons (EV.fdiv (EV.var 1) EV.int (by constructor <;> decide)) AV.nil) T.int) EV.int (by decide)) ?_ nd
  generalize num / 1000 % 28 = way
  obtain ⟨hpl, hplb, hpr⟩ := ht.ok hf htne
  refine HT.when (TV.leLe EV.int (EV.var 5) EV.int) (fun h => ?_) (fun h => ?_)
  · obtain ⟨nm, d, a, g, v, hP⟩ := parts_ex hf ht htne
    refine HT.set 6 (EV.call (i := ⟨ats, t, nm, d, a, g, v, way⟩) tBr (hr.mono (by decide)) tk (AV.cons (EV.var 2) (AV.cons (EV.var 3) (AV.cons (EV.var 5) AV.nil))) ⟨hf, ht, hP⟩ rfl) ?_ nd
    have hbad := brk_bad hf ht hP (way := way)
    obtain ⟨s1, s2⟩ := brk_sm hf ht hP way
    show HT _ _ _ [some (im (rSc K) ns), some (im rI num), some (im (rL rAt) ats), some (im (rL rTb1) t), some (im (rL rArea) land), some (im rI way), some (im (rP (rL rAt) (rL rTb1)) (brk ats t nm d a g v way)), none, none, none, none, none, none, none, none, none, none, none, none, none] _
    generalize brk ats t nm d a g v way = bk at hbad s1 s2
    obtain ⟨ba, bt⟩ := bk
    have hbad : (attrsB ba && tablesB ba bt) = false := hbad
    have hri : (if planB (land, ba, bt) then Except.ok (land, ba, bt) else Except.error CP) = (Except.error CP : Except Addr Pl) := if_neg (by
      unfold planB
      show ¬ (treeB land && (attrsB ba && tablesB ba bt)) = true
      rw [hbad, Bool.and_false]; decide)
    refine HT.tryAsF 7 ⟨rfl, by decide, .inl Tq.nm⟩ tk (fun W pn xE tk2 po hX _ => ?_) nd
    refine HT.exprNo (EV.makeG (k := 6) (i := (land, ba, bt)) (s := noS) tI (hr.mono (by decide)) tk2 (AV.cons (EV.var 4) (AV.cons (EV.ixP0 (x := ba) (y := bt) (R := rL rAt) (S := rL rTb1) (EV.var 6)) (AV.cons (EV.ixP1 (x := ba) (y := bt) (R := rL rAt) (S := rL rTb1) (EV.var 6)) AV.nil))) ⟨land_ok.2, s1.ok, s2.ok, fun p hp => (s2.2 p hp).2.pr⟩ (fun y' h => nomatch (hri.symm.trans h)) (fun C h => ?_))
    cases hri.symm.trans h
    refine hX _ CP _ Up.rfl' Tq.xp fun a oe pn hz hf => ?_
    exact HT.ret (EV.isE Tq.EP hz hf 7 rfl T.isi Tq.np Tq.kp) rfl
  refine HT.setC 9 (EV.lcO (own := [("one", 8)]) (Tg.name (R := rAt) 8 (by decide) fun _ _ _ _ _ => pg_name nd rfl (Or.inl rfl)) (fun p => p) (IV.list (EV.var 2)) nd (by show blkC nLaw (defScope sLaw) _ [("one", 8)] = true; decide +kernel) (by have := hf.2.1; omega) (fun b' i p s H0 C cl fp hb hp => EV.oprMk (EV.ixP0 (x := p.1) (y := p.2) (R := rS) (S := rL rS) (EV.var 8)) (EV.listOf (AV.cons (EV.ixP1 (x := p.1) (y := p.2) (R := rS) (S := rL rS) (EV.var 8)) AV.nil) T.lst))) ?_ (sw_true rfl rfl rfl (by decide +kernel))
  rw [List.map_id']
  have hri : (if planB (land, ats, t) then Except.ok (land, ats, t) else Except.error CP) = (Except.ok (land, ats, t) : Except Addr Pl) := if_pos hplb
  refine HT.set 10 (EV.lendG (s := owP rS rS ats) (R := rL (rP rS (rL rS))) (a := ats) 9 rfl Frz.owP (planG CPl CT) (EV.make (k := 6) (i := (land, ats, t)) (y := (land, ats, t)) tI (hr.mono (by decide)) tk (AV.cons (EV.var 4) (AV.cons (EV.var 9) (AV.cons (EV.var 3) AV.nil))) ⟨land_ok.2, hpl.at_, hpl.tb, hpr⟩ (fun y' h => by cases hri.symm.trans h; rfl) (fun C h => nomatch (hri.symm.trans h)))) ?_ nd
  obtain ⟨p0, arest, hats⟩ : ∃ p0 r, ats = p0 :: r := by
    cases e : ats with
    | nil => exact absurd e hf.ne
    | cons a b => exact ⟨a, b, rfl⟩
  have hp0 : p0 ∈ ats := by rw [hats]; exact List.mem_cons_self
  have ha0 : atI ats ((0 : Nat) : Int) = some p0 := atI_nat (by rw [hats]; rfl)
  refine HT.appP 9 rfl EV.int ha0 EV.str (by
    have := (first_ok p0 (hf.2.2 p0 hp0)).2.2.2.2.2.1
    omega) ?_
  have nmT : ∀ n ∈ t.map (·.1), n.length ≤ 1000 ∧ PyData.strOk n = true := fun n hn => by
    obtain ⟨p, hp, rfl⟩ := List.mem_map.mp hn
    have := tnames_ok _ (ht.n p hp)
    exact ⟨by omega, this.2.1⟩
  refine HT.when (TV.or3 (TV.neW (x := ats) (y := ats) (dwA.lst Lis.pl) (by decide) hr.units (lay_ats hf.2.2) (lay_ats hf.2.2) (EV.fz (EV.meth0 (i := (land, ats, t)) tAts (hr.mono (by decide)) tk (EV.var 10) (fun F v h => rObj.no h rfl) rfl hpl rfl)) (EV.var 2))
    (fun _ => TV.neW (x := t.map (·.1)) (y := t.map (·.1)) (Dw.str.lst Lis.pl) (by decide) hr.units (layAll _ _ fun n hn => (nmT n hn).2) (layAll _ _ fun n hn => (nmT n hn).2) (EV.fz (EV.meth0 (i := (land, ats, t)) tTbs (hr.mono (by decide)) tk (EV.var 10) (fun F v h => rObj.no h rfl) rfl trivial rfl)) (EV.fz (LV.ev (LV.lcL0 (j := 11) (S := rS) (fun p : Str × Dm => p.1) (IV.list (EV.var 3)) nd (by show blkC nLaw (defScope sLaw) _ [("table", 11)] = true; decide +kernel) (by have := ht.l; omega) (fun b' i p s H0 C cl fp hb hp => EV.ixP0 (x := p.1) (y := p.2) (R := rS) (S := rDmP) (EV.var 11)) (fun _ _ _ _ _ => pg_name nd rfl (Or.inl rfl))))))
    (fun _ _ => TV.neW (x := land.map (·.1)) (y := (["land", "north"] : List Str)) (Dw.str.lst Lis.pl) (by decide) hr.units (by decide +kernel) (by decide +kernel) (EV.fz (EV.meth0 (i := land) tN (hr.mono (by decide)) tk (EV.fld (fs := planF CT) (x := (land, ats, t)) Q.c (EV.var 10) rfl Q.nAr) (fun F v h => rObj.no h rfl) rfl trivial rfl)) (EV.fz (EV.lst (R := rS) (as := ["land", "north"]) (AV.cons EV.str (AV.cons EV.str AV.nil)) rfl (by decide))))) (fun h => ?_) (fun _ => ?_)
  · exfalso
    rw [decide_eq_true rfl, decide_eq_true rfl, decide_eq_true (show land.map (·.1) = (["land", "north"] : List Str) from rfl)] at h
    exact absurd h (by decide)
  refine HT.set 12 (EV.call (i := cellV ns 2) tRich (hr.mono (by decide)) tk (AV.cons (EV.call (i := (ns, 2)) tCell (hr.mono (by decide)) tk (AV.cons (EV.var 0) (AV.cons EV.int AV.nil)) (by show (0 : Int) ≤ 2; decide) rfl) AV.nil) trivial rfl) ?_ nd
  generalize richV (cellV ns 2) = dg
  refine HT.set 13 (EV.lst (R := rS) (as := []) AV.nil rfl (by decide)) ?_ nd
  show HT _ _ _ [some (im (rSc K) ns), some (im rI num), some (im (rL rAt) ats), some (im (rL rTb1) t), some (im (rL rArea) land), some (im rI way), none, none, none, none, some (im (rPlan CPl CT) (land, ats, t)), none, some (im rI dg), some (ow rS []), none, none, none, none, none, none] _
  refine HT.weak (Γ' := [some (im (rSc K) ns), none, some (im (rL rAt) ats), some (im (rL rTb1) t), none, none, none, none, none, none, some (im (rPlan CPl CT) (land, ats, t)), none, some (im rI dg), some (ow rS []), none, none, none, none, none, none]) (by repeat (first | exact Le.nil | apply Le.keep | apply Le.drop)) ?_
  refine HT.for (IV.list (EV.var 2)) (fun k Γ => ∃ (dg : Int) (vs : List Str), Γ = [some (im (rSc K) ns), none, some (im (rL rAt) ats), some (im (rL rTb1) t), none, none, none, none, none, none, some (im (rPlan CPl CT) (land, ats, t)), none, some (im rI dg), some (ow rS vs), none, none, none, none, none, none] ∧ vs.length = k ∧ ∀ (j : Nat) (p : Str × List Str), j < k → ats[j]? = some p → ∃ v, vs[j]? = some v ∧ v ∈ p.2) ⟨dg, [], rfl, rfl, fun _ _ h => nomatch h⟩ ?_ ?_ (passes_of rfl)
  · rintro b' i y Γ' hb hi ⟨⟨a, vals⟩, hx, rfl⟩ ⟨dg, vs, rfl, hvl, hvs⟩
    have hx : ats[i]? = some (a, vals) := hx
    have fo := first_ok _ (hf.2.2 _ (List.mem_of_getElem? hx))
    have l2 : 2 ≤ vals.length := fo.2.2.2.2.1
    have hi4 : i < 4 := by
      have h1 := (List.getElem?_eq_some_iff.mp hx).1
      have h2 := hf.2.1
      omega
    have m0 : 0 ≤ dg % (vals.length : Int) := Int.emod_nonneg _ (by omega)
    have m1 : dg % (vals.length : Int) < (vals.length : Int) := Int.emod_lt_of_pos _ (by omega)
    refine ⟨_, GV.name 8 nd, ?_⟩
    refine HT.append (x := vals.getD (dg % (vals.length : Int)).toNat "") 13 rfl (EV.ixL (EV.ixP1 (x := a) (y := vals) (R := rS) (S := rL rS) (EV.var 8)) (EV.mod (EV.toInt (AV.cons (EV.var 12) AV.nil) T.int) (EV.lenL (AV.cons (EV.ixP1 (x := a) (y := vals) (R := rS) (S := rL rS) (EV.var 8)) AV.nil) T.len) (by omega)) (at_i ("" : Str) m0 m1)) (by omega) ?_
    have hin : vals.getD (dg % (vals.length : Int)).toNat "" ∈ vals := by
      rw [List.getD_eq_getElem?_getD, List.getElem?_eq_getElem (by omega)]
      exact List.getElem_mem _
    generalize vals.getD (dg % (vals.length : Int)).toNat "" = v at hin
    refine HT.set 12 (EV.fdiv (EV.var 12) EV.int (by constructor <;> decide)) ?_ nd
    refine HT.done (by repeat (first | exact Le.nil | apply Le.keep | apply Le.drop)) ⟨dg / 7, vs ++ [v], rfl, by rw [List.length_append, hvl]; rfl, fun j p hj hp => ?_⟩
    by_cases e : j = i
    · subst e
      rw [hx] at hp
      cases hp
      exact ⟨v, by rw [List.getElem?_append_right (by omega), show j - vs.length = 0 by omega]; rfl, hin⟩
    · obtain ⟨v', k1, k2⟩ := hvs j p (by omega) hp
      exact ⟨v', by rw [List.getElem?_append_left (by omega)]; exact k1, k2⟩
  rintro Γ' ⟨dg, vs, rfl, hvl, hvs⟩
  have hV : Vals ats vs := ⟨hvl, fun j p hp => hvs j p (List.getElem?_eq_some_iff.mp hp).1 hp⟩
  have hhas : hasB ats vs = true := hV.has hf.nd
  have hv4 : vs.length ≤ 4 := by have := hf.2.1; omega
  refine HT.frz 13 rfl ?_
  refine HT.set 14 (EV.dict0 (S := rS)) ?_ nd
  refine HT.for (IV.rng1 (AV.cons (EV.lenL (AV.cons (EV.var 2) AV.nil) T.len) AV.nil) (by omega) T.rng) (fun k Γ => Γ = [some (im (rSc K) ns), none, some (im (rL rAt) ats), some (im (rL rTb1) t), none, none, none, none, none, none, some (im (rPlan CPl CT) (land, ats, t)), none, some (im rI dg), some (im (rL rS) vs), some (owD rS (kvS (((ats.map (·.1)).zip vs).take k))), none, none, none, none, none]) rfl ?_ ?_ (passes_of rfl)
  · rintro b' i y Γ' hb hi rfl rfl
    have hi2 : i < ats.length := by omega
    have hx : ats[i]? = some (ats.getD i ("", [])) := by
      rw [List.getD_eq_getElem?_getD, List.getElem?_eq_getElem hi2]; rfl
    generalize ats.getD i ("", []) = p at hx
    obtain ⟨a, vals⟩ := p
    obtain ⟨v, hv, _⟩ := hvs i (a, vals) hi2 hx
    have hzi : ((ats.map (·.1)).zip vs)[i]? = some (a, v) := by
      rw [List.getElem?_zip_eq_some]
      exact ⟨by rw [List.getElem?_map, hx]; rfl, hv⟩
    have hzt : ((ats.map (·.1)).zip vs).take (i + 1) = ((ats.map (·.1)).zip vs).take i ++ [(a, v)] := by rw [List.take_add_one, hzi]; rfl
    have hnew : a ∉ ((((ats.map (·.1)).zip vs).take i).map (·.1)) := by
      have hz1 : ((ats.map (·.1)).zip vs).map (·.1) = ats.map (·.1) := List.map_fst_zip (by rw [List.length_map]; omega)
      rw [List.map_take, hz1]
      intro z
      have ha : (ats.map (·.1))[i]? = some a := by rw [List.getElem?_map, hx]; rfl
      have hn := hf.nd
      rw [← List.take_append_drop i (ats.map (·.1))] at hn
      have hm : a ∈ (ats.map (·.1)).drop i := List.mem_of_getElem? (i := 0) (by rw [List.getElem?_drop]; exact ha)
      exact (List.nodup_append.mp hn).2.2 a z a hm rfl
    refine ⟨_, GV.name 15 nd, ?_⟩
    refine HT.putK (k := Sum.inr a) 14 rfl hu (EV.ixL (EV.var 13) (EV.var 15) (atI_nat hv)) (EV.ixP0 (x := a) (y := vals) (R := rS) (S := rL rS) (EV.ixL (EV.var 2) (EV.var 15) (atI_nat hx))) (fun F v h => h) (by
      unfold kvS
      rw [List.length_map, List.length_take, List.length_zip]; omega) ?_
    rw [kput_new _ _ _ hnew, ← hzt]
    exact HT.done (by repeat (first | exact Le.nil | apply Le.keep | apply Le.drop)) rfl
  rintro Γ' rfl
  rw [List.take_of_length_le (by rw [List.length_zip]; omega)]
  refine HT.lkD 14 rfl ?_
  refine HT.for (IV.list (EV.var 3)) (fun _ Γ => Γ = [some (im (rSc K) ns), none, some (im (rL rAt) ats), some (im (rL rTb1) t), none, none, none, none, none, none, some (im (rPlan CPl CT) (land, ats, t)), none, some (im rI dg), some (im (rL rS) vs), some (im (rDK rS) (kvS ((ats.map (·.1)).zip vs))), none, none, none, none, none]) rfl ?_ ?_ (passes_of rfl)
  · rintro b' i y Γ' hb hi ⟨⟨n, d⟩, hx, rfl⟩ rfl
    have hx : t[i]? = some (n, d) := hx
    have hm := List.mem_of_getElem? hx
    have hk : n ∈ t.map (·.1) := List.mem_map.mpr ⟨_, hm, rfl⟩
    have hn1 : n.length ≤ 1000 := (nmT n hk).1
    have hdi : dimsOfT t n = d := dims_get t hpl.tbn (n, d) hm
    have hdm := hpl.dims hk
    rw [show (land, ats, t).2.2 = t from rfl, hdi] at hdm
    obtain ⟨hd1, hd2, hd3⟩ := hdm
    have hd3 : ∀ p ∈ d, p.1 ∈ ats.map (·.1) ∧ GpOk p.2 ∧ groupB (valsOf ats p.1) p.2 = true := hd3
    have hdf : ∀ q ∈ d, DmFor ats q := (ht.d _ hm).2
    have hlay := lay_dims hf hdf
    have hso : StrsOk (clsN d) := clsN_ok d fun q hq => ((hdf q hq).ok hf).2.2.2.2.2.1
    have dwD4 : Dw K (rL (rP rS (rL (rLK rS)))) dDs 4 := (Dw.pair Dw.str ((Dw.str.lst Lis.lk).lst Lis.pl)).lst Lis.pl
    obtain ⟨q0, dr, hde⟩ : ∃ q0 r, d = q0 :: r := by
      cases e : d with
      | nil => exact absurd e hd2
      | cons a b => exact ⟨a, b, rfl⟩
    have hq0 : atI (dimsOfT t n) ((0 : Nat) : Int) = some q0 := atI_nat (by rw [hdi, hde]; rfl)
    have hq1 : q0.2.length ≤ 50 := (hd3 q0 (by rw [hde]; exact List.mem_cons_self)).2.1.1
    refine ⟨_, GV.name 11 nd, ?_⟩
    refine HT.when (TV.or (TV.neW2 (x := dimsOfT t n) (y := d) dwD4 dwDs (by decide) hr.units (by rw [hdi]; exact hlay) hlay (EV.fzG (EV.methY (i := ((land, ats, t), n)) tDi (hr.mono (by decide)) tk (EV.var 10) (fun F v h => rObj.no h rfl) (AV.cons (EV.ixP0 (x := n) (y := d) (R := rS) (S := rDmP) (EV.var 11)) AV.nil) rfl ⟨hpl, hn1⟩ (kn_ok hk) (fun C h => (kn_err h).elim) (fun C fs h => (kn_noF hk h).elim)) Frz.owP) (EV.ixP1 (x := n) (y := d) (R := rS) (S := rDmP) (EV.var 11))) (fun _ => TV.neW (x := clsN (dimsOfT t n)) (y := clsN d) (Dw.str.lst Lis.pl) (by decide) hr.units (by rw [hdi]; exact layAll _ _ hso) (layAll _ _ hso) (EV.fz (EV.methY (i := ((land, ats, t), n)) tCls (hr.mono (by decide)) tk (EV.var 10) (fun F v h => rObj.no h rfl) (AV.cons (EV.ixP0 (x := n) (y := d) (R := rS) (S := rDmP) (EV.var 11)) AV.nil) rfl hn1 (kn_ok hk) (fun C h => (kn_err h).elim) (fun C fs h => (kn_noF hk h).elim))) (EV.call (i := d) tLC (hr.mono (by decide)) tk (AV.cons (EV.ixP1 (x := n) (y := d) (R := rS) (S := rDmP) (EV.var 11)) AV.nil) ⟨hd2, hd1, hpr _ hm⟩ rfl))) (fun h => ?_) (fun _ => ?_)
    · exfalso
      rw [decide_eq_true hdi, decide_eq_true (congrArg clsN hdi)] at h
      exact absurd h (by decide)
    refine HT.appTmp (EV.ixO1 (EV.ixOP (EV.methY (i := ((land, ats, t), n)) tDi (hr.mono (by decide)) tk (EV.var 10) (fun F v h => rObj.no h rfl) (AV.cons (EV.ixP0 (x := n) (y := d) (R := rS) (S := rDmP) (EV.var 11)) AV.nil) rfl ⟨hpl, hn1⟩ (kn_ok hk) (fun C h => (kn_err h).elim) (fun C fs h => (kn_noF hk h).elim)) EV.int hq0)) (EV.lkL (EV.lst (R := rS) (as := ["more"]) (AV.cons EV.str AV.nil) rfl (by decide))) (by omega) ?_
    refine HT.set 16 EV.int ?_ nd
    refine HT.for (IV.list (EV.ixP1 (x := n) (y := d) (R := rS) (S := rDmP) (EV.var 11))) (fun k Γ => Γ = [some (im (rSc K) ns), none, some (im (rL rAt) ats), some (im (rL rTb1) t), none, none, none, none, none, none, some (im (rPlan CPl CT) (land, ats, t)), some (im rTb1 (n, d)), some (im rI dg), some (im (rL rS) vs), some (im (rDK rS) (kvS ((ats.map (·.1)).zip vs))), none, some (im rI (clsNo ats vs (d.take k))), none, none, none]) rfl ?_ ?_ (passes_of rfl)
    · rintro b2 j y Γ' hb2 hj ⟨⟨a, g⟩, hx2, rfl⟩ rfl
      have hx2 : d[j]? = some (a, g) := hx2
      obtain ⟨ha, hg, hgb⟩ := hd3 _ (List.mem_of_getElem? hx2)
      have ha : a ∈ ats.map (·.1) := ha
      have hg : GpOk g := hg
      have hg50 : g.length ≤ 50 := hg.1
      obtain ⟨v, hv1, hv2⟩ := pl_get hvl ha
      obtain ⟨v', hv3, hv4⟩ := has_val hhas ha
      rw [hv1] at hv3
      cases hv3
      have hvf : v ∈ g.flatten := (group_perm hgb).mem_iff.mpr hv4
      refine ⟨_, GV.name 17 nd, ?_⟩
      refine HT.set 18 (EV.ixL (EV.fz (LV.ev (LV.lcR1 (j := 15) (S := rI) (fun k : Nat => decide (v ∈ g.getD k [])) (fun k : Nat => (k : Int)) (IV.rng1 (AV.cons (EV.lenL (AV.cons (EV.ixP1 (x := a) (y := g) (R := rS) (S := rL (rL rS)) (EV.var 17)) AV.nil) T.len) AV.nil) (by omega) T.rng) nd (by show blkC nLaw (defScope sLaw) _ [("k", 15)] = true; decide +kernel) (by omega) (fun b' i s H0 C cl fp hb hi => ?_) (fun b' i s H0 C cl fp hb hi hp => EV.var 15) (fun _ _ _ _ _ => pg_name nd rfl (Or.inl rfl))))) EV.int (show atI _ ((0 : Nat) : Int) = some (grpOf g v) from atI_nat (by rw [Int.toNat_natCast]; exact grp_head hvf))) ?_ nd
      · have hig : g[i]? = some (g.getD i []) := by
          rw [List.getD_eq_getElem?_getD, List.getElem?_eq_getElem (by omega)]; rfl
        exact TV.inF (x := v) (as := g.getD i []) Flat.str Lis.pl (EV.getK (k := Sum.inr a) Dic.lk hu (EV.var 14) (EV.ixP0 (x := a) (y := g) (R := rS) (S := rL (rL rS)) (EV.var 17)) (fun F v h => h) hv2) (EV.ixL (EV.ixP1 (x := a) (y := g) (R := rS) (S := rL (rL rS)) (EV.var 17)) (EV.var 15) (atI_nat hig))
      refine HT.set 16 (EV.add (EV.mul (EV.var 16) (EV.lenL (AV.cons (EV.ixP1 (x := a) (y := g) (R := rS) (S := rL (rL rS)) (EV.var 17)) AV.nil) T.len) (.inr (by
        show -(2 ^ 64) < (g.length : Int) ∧ (g.length : Int) < 2 ^ 64
        omega))) (EV.var 18)) ?_ nd
      have e : clsNo ats vs (d.take j) * (g.length : Int) + grpOf g v = clsNo ats vs (d.take (j + 1)) := by
        rw [List.take_add_one, hx2]
        unfold clsNo
        rw [List.foldl_append]
        show _ = _ * (g.length : Int) + grpOf g (vs.getD (posN ats a) "")
        rw [List.getD_eq_getElem?_getD, hv1]; rfl
      rw [e]
      exact HT.done (by repeat (first | exact Le.nil | apply Le.keep | apply Le.drop)) rfl
    rintro Γ' rfl
    rw [List.take_length]
    have hco : coR CU CR ((land, ats, t), n, vs) = .ok (im rI (clsNo ats vs (dimsOfT t n))) := by
      show knownN CU (t.map (·.1)) n (if hasB ats vs then _ else _) = _
      rw [kn_in hk, if_pos hhas]
    refine HT.when (TV.or (TV.neI (EV.methY (i := ((land, ats, t), n, vs)) tCo (hr.mono (by decide)) tk (EV.var 10) (fun F v h => rObj.no h rfl) (AV.cons (EV.ixP0 (x := n) (y := d) (R := rS) (S := rDmP) (EV.var 11)) (AV.cons (EV.tupL Lis.pl (EV.var 13) V.tup) AV.nil)) rfl ⟨hpl, hn1⟩ (fun s' h => by rw [hco] at h; cases h; rfl) (fun C h => by rw [hco] at h; cases h) (fun C fs h => by rw [hco] at h; cases h)) (EV.var 16)) (fun _ => TV.neW2 (x := dimsOfT t n) (y := d) dwD4 dwDs (by decide) hr.units (by rw [hdi]; exact hlay) hlay (EV.fzG (EV.methY (i := ((land, ats, t), n)) tDi (hr.mono (by decide)) tk (EV.var 10) (fun F v h => rObj.no h rfl) (AV.cons (EV.ixP0 (x := n) (y := d) (R := rS) (S := rDmP) (EV.var 11)) AV.nil) rfl ⟨hpl, hn1⟩ (kn_ok hk) (fun C h => (kn_err h).elim) (fun C fs h => (kn_noF hk h).elim)) Frz.owP) (EV.ixP1 (x := n) (y := d) (R := rS) (S := rDmP) (EV.var 11)))) (fun h => ?_) (fun _ => ?_)
    · exfalso
      rw [decide_eq_true hdi, decide_eq_true (congrArg (clsNo ats vs) hdi)] at h
      exact absurd h (by decide)
    · exact HT.done (by repeat (first | exact Le.nil | apply Le.keep | apply Le.drop)) rfl
  rintro Γ' rfl
  obtain ⟨⟨n0, d0⟩, tr, hte⟩ : ∃ p r, t = p :: r := by
    cases e : t with
    | nil => exact absurd e htne
    | cons a b => exact ⟨a, b, rfl⟩
  have ht0 : atI t ((0 : Nat) : Int) = some (n0, d0) := atI_nat (by rw [hte]; rfl)
  have hk0 : n0 ∈ t.map (·.1) := by rw [hte]; exact List.mem_cons_self
  have wr : ∀ w ∈ [vs.drop 1, vs ++ (["f"] : List Str), (["none"] : List Str) ++ vs.drop 1], hasB ats w = false := by
    have la : 0 < ats.length := by rw [hats]; exact Nat.succ_pos _
    intro w hw
    rcases List.mem_cons.mp hw with e | hw
    · rw [e]; exact has_len (by rw [List.length_drop]; omega)
    rcases List.mem_cons.mp hw with e | hw
    · rw [e]; exact has_len (by rw [List.length_append]; show vs.length + 1 ≠ _; omega)
    · rw [List.mem_singleton.mp hw]; exact has_none hf _
  refine HT.for (IV.list (EV.fz (EV.lst (R := rT rS) (as := [vs.drop 1, vs ++ (["f"] : List Str), (["none"] : List Str) ++ vs.drop 1]) (AV.cons (EV.tupL Lis.pl (EV.fz (EV.from (m := 1) (EV.var 13) EV.int)) V.tup) (AV.cons (EV.tupL Lis.pl (EV.fz (EV.cat (EV.var 13) (EV.fz (EV.lst (R := rS) (as := ["f"]) (AV.cons EV.str AV.nil) rfl (by decide))) (by show vs.length + 1 ≤ _; omega))) V.tup) (AV.cons (EV.tupL Lis.pl (EV.fz (EV.cat (EV.fz (EV.lst (R := rS) (as := ["none"]) (AV.cons EV.str AV.nil) rfl (by decide))) (EV.fz (EV.from (m := 1) (EV.var 13) EV.int)) (by rw [List.length_drop]; show 1 + _ ≤ _; omega))) V.tup) AV.nil))) rfl (by show 3 ≤ 1000; decide)))) (fun _ Γ => Γ = [some (im (rSc K) ns), none, some (im (rL rAt) ats), some (im (rL rTb1) t), none, none, none, none, none, none, some (im (rPlan CPl CT) (land, ats, t)), none, some (im rI dg), some (im (rL rS) vs), some (im (rDK rS) (kvS ((ats.map (·.1)).zip vs))), none, none, none, none, none]) rfl ?_ ?_ (passes_of rfl)
  · rintro b' i y Γ' hb hi ⟨w0, hx, rfl⟩ rfl
    have hw := wr w0 (List.mem_of_getElem? hx)
    have hco : coR CU CR ((land, ats, t), n0, w0) = .err CR := by
      show knownN CU (t.map (·.1)) n0 (if hasB ats w0 then _ else _) = _
      rw [kn_in hk0, if_neg (by rw [hw]; decide)]
    refine ⟨_, GV.name 19 nd, ?_⟩
    refine HT.tryAsF 7 ⟨rfl, by decide, .inl Tq.nm⟩ tk (fun W pn xE tk2 po hX _ => ?_) nd
    refine HT.exprNo (EV.methY (s := noS) (i := ((land, ats, t), n0, w0)) tCo (hr.mono (by decide)) tk2 (EV.var 10) (fun F v h => rObj.no h rfl) (AV.cons (EV.ixP0 (x := n0) (y := d0) (R := rS) (S := rDmP) (EV.ixL (EV.var 3) EV.int ht0)) (AV.cons (EV.var 19) AV.nil)) rfl ⟨hpl, (nmT n0 hk0).1⟩ (fun s' h => by rw [hco] at h; cases h) (fun C h => ?_) (fun C fs h => by rw [hco] at h; cases h))
    rw [hco] at h
    cases h
    refine hX _ CR _ Up.rfl' Tq.xr fun a oe pn hz hf => ?_
    refine HT.when (TV.not (TV.val (EV.isE Tq.ER hz hf 7 rfl T.isi Tq.nr Tq.kr))) (fun h => absurd h (by decide)) (fun _ => HT.nil ?_)
    exact HT.done (by repeat (first | exact Le.nil | apply Le.keep | apply Le.drop)) rfl
  rintro Γ' rfl
  have zz : ("zz" : Str) ∉ t.map (·.1) := fun z => by
    obtain ⟨p, hp, e⟩ := List.mem_map.mp z
    exact (tnames_ok _ (ht.n p hp)).2.2.2.2.2.2.1 e
  refine HT.tryAsF 7 ⟨rfl, by decide, .inl Tq.nm⟩ tk (fun W pn xE tk2 po _ hXF => ?_) nd
  refine HT.ite (TV.eqI (EV.mod (EV.toInt (AV.cons (EV.var 12) AV.nil) T.int) EV.int (by decide)) EV.int) (fun _ => ?_) (fun _ => ?_)
  · refine HT.exprNo (EV.methY (s := noS) (i := ((land, ats, t), ("zz" : Str))) tCls (hr.mono (by decide)) tk2 (EV.var 10) (fun F v h => rObj.no h rfl) (AV.cons EV.str AV.nil) rfl (by show ("zz" : Str).length ≤ 1000; decide) (fun s' h => (kn_no zz h).elim) (fun C h => (kn_err h).elim) (fun C fs h => knF zz h ?_))
    refine hXF _ CU _ _ Up.rfl' Tq.xu fun a d oe pn hz hf => ?_
    exact HT.ret (EV.andV (EV.isEF Tq.EU hz hf 7 rfl T.isi Tq.nu Tq.ku) (fun _ => EV.eqS (EV.xf Tq.XU Tq.nN hz hf 7 rfl rfl) EV.str)) rfl
  · refine HT.exprNo (EV.methY (s := noS) (i := ((land, ats, t), ("zz" : Str))) tDi (hr.mono (by decide)) tk2 (EV.var 10) (fun F v h => rObj.no h rfl) (AV.cons EV.str AV.nil) rfl ⟨hpl, by show ("zz" : Str).length ≤ 1000; decide⟩ (fun s' h => (kn_no zz h).elim) (fun C h => (kn_err h).elim) (fun C fs h => knF zz h ?_))
    refine hXF _ CU _ _ Up.rfl' Tq.xu fun a d oe pn hz hf => ?_
    exact HT.ret (EV.andV (EV.isEF Tq.EU hz hf 7 rfl T.isi Tq.nu Tq.ku) (fun _ => EV.eqS (EV.xf Tq.XU Tq.nN hz hf 7 rfl rfl) EV.str)) rfl
end
end K2

namespace K2
open PySem L2 Evl Lg PyProof.Rows
theorem all_mk {P : Program} {w : World} {K : PySem.W.Frag} {h : Heap} {mg : Str → Option Value} {fa CP CU CT CB CR CPl fIsName fFits fChecked fUInit fTInit fNames fAF fIG fTF fCD fCA fCTb fGN fCN fGX fPI fAts fTbs fCls fDi fCo fCk fSc fHv fCell fRich fAA fAG fAT fLC fBr fLaw : Addr} (X : K.In h) (G : h.Ns mainGlobals mg) (hfa : mg "law" = some (.ref fa))
    {odIsName anIsName odFits anFits odChecked anChecked odUInit anUInit odTInit anTInit odNames anNames odAF anAF odIG anIG odTF anTF odCD anCD odCA anCA odCTb anCTb odGN anGN odCN anCN odGX anGX odPI anPI odAts anAts odTbs anTbs odCls anCls odDi anDi odCo anCo odCk anCk odSc anSc odHv anHv odCell anCell odRich anRich odAA anAA odAG anAG odAT anAT odLC anLC odBr anBr odLaw anLaw : Option Addr} {slIsName slFits slChecked slUInit slTInit slNames slAF slIG slTF slCD slCA slCTb slGN slCN slGX slPI slAts slTbs slCls slDi slCo slCk slSc slHv slCell slRich slAA slAG slAT slLC slBr slLaw : Array (Option Value)} {ocIsName kVIsName dcIsName pmIsName cdIsName ctIsName ocFits kVFits dcFits pmFits cdFits ctFits ocChecked kVChecked dcChecked pmChecked cdChecked ctChecked ocUInit kVUInit dcUInit pmUInit cdUInit ctUInit ocTInit kVTInit dcTInit pmTInit cdTInit ctTInit ocNames kVNames dcNames pmNames cdNames ctNames ocAF kVAF dcAF pmAF cdAF ctAF ocIG kVIG dcIG pmIG cdIG ctIG ocTF kVTF dcTF pmTF cdTF ctTF ocCD kVCD dcCD pmCD cdCD ctCD ocCA kVCA dcCA pmCA cdCA ctCA ocCTb kVCTb dcCTb pmCTb cdCTb ctCTb ocGN kVGN dcGN pmGN cdGN ctGN ocCN kVCN dcCN pmCN cdCN ctCN ocGX kVGX dcGX pmGX cdGX ctGX ocPI kVPI dcPI pmPI cdPI ctPI ocAts kVAts dcAts pmAts cdAts ctAts ocTbs kVTbs dcTbs pmTbs cdTbs ctTbs ocCls kVCls dcCls pmCls cdCls ctCls ocDi kVDi dcDi pmDi cdDi ctDi ocCo kVCo dcCo pmCo cdCo ctCo ocCk kVCk dcCk pmCk cdCk ctCk ocSc kVSc dcSc pmSc cdSc ctSc ocHv kVHv dcHv pmHv cdHv ctHv ocCell kVCell dcCell pmCell cdCell ctCell ocRich kVRich dcRich pmRich cdRich ctRich ocAA kVAA dcAA pmAA cdAA ctAA ocAG kVAG dcAG pmAG cdAG ctAG ocAT kVAT dcAT pmAT cdAT ctAT ocLC kVLC dcLC pmLC cdLC ctLC ocBr kVBr dcBr pmBr cdBr ctBr ocLaw kVLaw dcLaw pmLaw cdLaw ctLaw : Value}
    {nm q : Str} {NA : Addr} {bs : List Value} {sn : List Str} {sub : List Value} {ab : Bool} {col : Option Bool} {dd : Option Addr} {m0 m1 m2 m3 m5 : Option Value} {tL tC tN : _}
    (aB : PySem.W.nsIn K mainGlobals "CellguardError" = some (some (.ref CB))) (aP : PySem.W.nsIn K mainGlobals "InvalidPlan" = some (some (.ref CP))) (aU : PySem.W.nsIn K mainGlobals "UnknownName" = some (some (.ref CU))) (aT : PySem.W.nsIn K mainGlobals "AreaTree" = some (some (.ref CT))) (aR : PySem.W.nsIn K mainGlobals "InvalidRecord" = some (some (.ref CR))) (aPl : PySem.W.nsIn K mainGlobals "Plan" = some (some (.ref CPl)))
    (gL : PySem.W.nsIn K mainGlobals "LETTERS" = some (some (.str "abcdefghijklmnopqrstuvwxyz" tL))) (gC : PySem.W.nsIn K mainGlobals "NAME_CHARACTERS" = some (some (.str "abcdefghijklmnopqrstuvwxyz0123456789-" tC))) (gN : PySem.W.nsIn K mainGlobals "LONGEST_NAME" = some (some (.int 12 tN)))
    (xU : K.lookup CU = some (excClassObj nm q CU NA bs [.ref CB, .type "ValueError", .type "Exception", .type "BaseException", .type "object"] true sn sub ab col dd m0 m1 m2 m3 m5 "ValueError.__new__"))
    (aIsName : PySem.W.nsIn K mainGlobals "is_name" = some (some (.ref fIsName)))
    (lIsName : K.lookup fIsName = some ⟨ocIsName, odIsName, .func (PySem.W.fnOf "is_name" "is_name" (defArgs sIsName) (defBody sIsName) (defScope sIsName) .none kVIsName dcIsName pmIsName anIsName cdIsName ctIsName), slIsName⟩) (cIsName : PySem.W.codeIn K cdIsName "is_name" = true) (kIsName : PySem.W.keepIn K (.ref fIsName) = true)
    (aFits : PySem.W.nsIn K mainGlobals "area_fits" = some (some (.ref fFits)))
    (lFits : K.lookup fFits = some ⟨ocFits, odFits, .func (PySem.W.fnOf "area_fits" "area_fits" (defArgs sFits) (defBody sFits) (defScope sFits) .none kVFits dcFits pmFits anFits cdFits ctFits), slFits⟩) (cFits : PySem.W.codeIn K cdFits "area_fits" = true) (kFits : PySem.W.keepIn K (.ref fFits) = true)
    (aChecked : PySem.W.nsIn K mainGlobals "checked_parents" = some (some (.ref fChecked)))
    (lChecked : K.lookup fChecked = some ⟨ocChecked, odChecked, .func (PySem.W.fnOf "checked_parents" "checked_parents" (defArgs sChecked) (defBody sChecked) (defScope sChecked) .none kVChecked dcChecked pmChecked anChecked cdChecked ctChecked), slChecked⟩) (cChecked : PySem.W.codeIn K cdChecked "checked_parents" = true) (kChecked : PySem.W.keepIn K (.ref fChecked) = true)
    (aUInit : PySem.W.findIn K (.ref CU) "__init__" = some (some (.ref fUInit))) (iUInit : PySem.W.isFn K (.ref fUInit) = true)
    (lUInit : K.lookup fUInit = some ⟨ocUInit, odUInit, .func (PySem.W.fnOf "__init__" "UnknownName.__init__" (defArgs sUInit) (defBody sUInit) (defScope sUInit) .none kVUInit dcUInit pmUInit anUInit cdUInit ctUInit), slUInit⟩) (cUInit : PySem.W.codeIn K cdUInit "UnknownName.__init__" = true) (kUInit : PySem.W.keepIn K (.ref fUInit) = true)
    (aTInit : PySem.W.findIn K (.ref CT) "__init__" = some (some (.ref fTInit))) (iTInit : PySem.W.isFn K (.ref fTInit) = true)
    (lTInit : K.lookup fTInit = some ⟨ocTInit, odTInit, .func (PySem.W.fnOf "__init__" "AreaTree.__init__" (defArgs (sTree 0)) (defBody (sTree 0)) (defScope (sTree 0)) .none kVTInit dcTInit pmTInit anTInit cdTInit ctTInit), slTInit⟩) (cTInit : PySem.W.codeIn K cdTInit "AreaTree.__init__" = true) (kTInit : PySem.W.keepIn K (.ref fTInit) = true)
    (aNames : PySem.W.findIn K (.ref CT) "names" = some (some (.ref fNames))) (iNames : PySem.W.isFn K (.ref fNames) = true)
    (lNames : K.lookup fNames = some ⟨ocNames, odNames, .func (PySem.W.fnOf "names" "AreaTree.names" (defArgs (sTree 1)) (defBody (sTree 1)) (defScope (sTree 1)) .none kVNames dcNames pmNames anNames cdNames ctNames), slNames⟩) (cNames : PySem.W.codeIn K cdNames "AreaTree.names" = true) (kNames : PySem.W.keepIn K (.ref fNames) = true)
    (aAF : PySem.W.nsIn K mainGlobals "attribute_fits" = some (some (.ref fAF)))
    (lAF : K.lookup fAF = some ⟨ocAF, odAF, .func (PySem.W.fnOf "attribute_fits" "attribute_fits" (defArgs sAF) (defBody sAF) (defScope sAF) .none kVAF dcAF pmAF anAF cdAF ctAF), slAF⟩) (cAF : PySem.W.codeIn K cdAF "attribute_fits" = true) (kAF : PySem.W.keepIn K (.ref fAF) = true)
    (aIG : PySem.W.nsIn K mainGlobals "is_grouping" = some (some (.ref fIG)))
    (lIG : K.lookup fIG = some ⟨ocIG, odIG, .func (PySem.W.fnOf "is_grouping" "is_grouping" (defArgs sIG) (defBody sIG) (defScope sIG) .none kVIG dcIG pmIG anIG cdIG ctIG), slIG⟩) (cIG : PySem.W.codeIn K cdIG "is_grouping" = true) (kIG : PySem.W.keepIn K (.ref fIG) = true)
    (aTF : PySem.W.nsIn K mainGlobals "table_fits" = some (some (.ref fTF)))
    (lTF : K.lookup fTF = some ⟨ocTF, odTF, .func (PySem.W.fnOf "table_fits" "table_fits" (defArgs sTF) (defBody sTF) (defScope sTF) .none kVTF dcTF pmTF anTF cdTF ctTF), slTF⟩) (cTF : PySem.W.codeIn K cdTF "table_fits" = true) (kTF : PySem.W.keepIn K (.ref fTF) = true)
    (aCD : PySem.W.nsIn K mainGlobals "copied_dimensions" = some (some (.ref fCD)))
    (lCD : K.lookup fCD = some ⟨ocCD, odCD, .func (PySem.W.fnOf "copied_dimensions" "copied_dimensions" (defArgs sCD) (defBody sCD) (defScope sCD) .none kVCD dcCD pmCD anCD cdCD ctCD), slCD⟩) (cCD : PySem.W.codeIn K cdCD "copied_dimensions" = true) (kCD : PySem.W.keepIn K (.ref fCD) = true)
    (aCA : PySem.W.nsIn K mainGlobals "checked_attributes" = some (some (.ref fCA)))
    (lCA : K.lookup fCA = some ⟨ocCA, odCA, .func (PySem.W.fnOf "checked_attributes" "checked_attributes" (defArgs sCA) (defBody sCA) (defScope sCA) .none kVCA dcCA pmCA anCA cdCA ctCA), slCA⟩) (cCA : PySem.W.codeIn K cdCA "checked_attributes" = true) (kCA : PySem.W.keepIn K (.ref fCA) = true)
    (aCTb : PySem.W.nsIn K mainGlobals "checked_tables" = some (some (.ref fCTb)))
    (lCTb : K.lookup fCTb = some ⟨ocCTb, odCTb, .func (PySem.W.fnOf "checked_tables" "checked_tables" (defArgs sCT) (defBody sCT) (defScope sCT) .none kVCTb dcCTb pmCTb anCTb cdCTb ctCTb), slCTb⟩) (cCTb : PySem.W.codeIn K cdCTb "checked_tables" = true) (kCTb : PySem.W.keepIn K (.ref fCTb) = true)
    (aGN : PySem.W.nsIn K mainGlobals "group_names" = some (some (.ref fGN)))
    (lGN : K.lookup fGN = some ⟨ocGN, odGN, .func (PySem.W.fnOf "group_names" "group_names" (defArgs sGN) (defBody sGN) (defScope sGN) .none kVGN dcGN pmGN anGN cdGN ctGN), slGN⟩) (cGN : PySem.W.codeIn K cdGN "group_names" = true) (kGN : PySem.W.keepIn K (.ref fGN) = true)
    (aCN : PySem.W.nsIn K mainGlobals "class_names" = some (some (.ref fCN)))
    (lCN : K.lookup fCN = some ⟨ocCN, odCN, .func (PySem.W.fnOf "class_names" "class_names" (defArgs sCN) (defBody sCN) (defScope sCN) .none kVCN dcCN pmCN anCN cdCN ctCN), slCN⟩) (cCN : PySem.W.codeIn K cdCN "class_names" = true) (kCN : PySem.W.keepIn K (.ref fCN) = true)
    (aGX : PySem.W.nsIn K mainGlobals "group_numbers" = some (some (.ref fGX)))
    (lGX : K.lookup fGX = some ⟨ocGX, odGX, .func (PySem.W.fnOf "group_numbers" "group_numbers" (defArgs sGX) (defBody sGX) (defScope sGX) .none kVGX dcGX pmGX anGX cdGX ctGX), slGX⟩) (cGX : PySem.W.codeIn K cdGX "group_numbers" = true) (kGX : PySem.W.keepIn K (.ref fGX) = true)
    (aPI : PySem.W.findIn K (.ref CPl) "__init__" = some (some (.ref fPI))) (iPI : PySem.W.isFn K (.ref fPI) = true)
    (lPI : K.lookup fPI = some ⟨ocPI, odPI, .func (PySem.W.fnOf "__init__" "Plan.__init__" (defArgs (sPl 0)) (defBody (sPl 0)) (defScope (sPl 0)) .none kVPI dcPI pmPI anPI cdPI ctPI), slPI⟩) (cPI : PySem.W.codeIn K cdPI "Plan.__init__" = true) (kPI : PySem.W.keepIn K (.ref fPI) = true)
    (aAts : PySem.W.findIn K (.ref CPl) "attributes" = some (some (.ref fAts))) (iAts : PySem.W.isFn K (.ref fAts) = true)
    (lAts : K.lookup fAts = some ⟨ocAts, odAts, .func (PySem.W.fnOf "attributes" "Plan.attributes" (defArgs (sPl 1)) (defBody (sPl 1)) (defScope (sPl 1)) .none kVAts dcAts pmAts anAts cdAts ctAts), slAts⟩) (cAts : PySem.W.codeIn K cdAts "Plan.attributes" = true) (kAts : PySem.W.keepIn K (.ref fAts) = true)
    (aTbs : PySem.W.findIn K (.ref CPl) "tables" = some (some (.ref fTbs))) (iTbs : PySem.W.isFn K (.ref fTbs) = true)
    (lTbs : K.lookup fTbs = some ⟨ocTbs, odTbs, .func (PySem.W.fnOf "tables" "Plan.tables" (defArgs (sPl 2)) (defBody (sPl 2)) (defScope (sPl 2)) .none kVTbs dcTbs pmTbs anTbs cdTbs ctTbs), slTbs⟩) (cTbs : PySem.W.codeIn K cdTbs "Plan.tables" = true) (kTbs : PySem.W.keepIn K (.ref fTbs) = true)
    (aCls : PySem.W.findIn K (.ref CPl) "classes" = some (some (.ref fCls))) (iCls : PySem.W.isFn K (.ref fCls) = true)
    (lCls : K.lookup fCls = some ⟨ocCls, odCls, .func (PySem.W.fnOf "classes" "Plan.classes" (defArgs (sPl 3)) (defBody (sPl 3)) (defScope (sPl 3)) .none kVCls dcCls pmCls anCls cdCls ctCls), slCls⟩) (cCls : PySem.W.codeIn K cdCls "Plan.classes" = true) (kCls : PySem.W.keepIn K (.ref fCls) = true)
    (aDi : PySem.W.findIn K (.ref CPl) "dimensions" = some (some (.ref fDi))) (iDi : PySem.W.isFn K (.ref fDi) = true)
    (lDi : K.lookup fDi = some ⟨ocDi, odDi, .func (PySem.W.fnOf "dimensions" "Plan.dimensions" (defArgs (sPl 4)) (defBody (sPl 4)) (defScope (sPl 4)) .none kVDi dcDi pmDi anDi cdDi ctDi), slDi⟩) (cDi : PySem.W.codeIn K cdDi "Plan.dimensions" = true) (kDi : PySem.W.keepIn K (.ref fDi) = true)
    (aCo : PySem.W.findIn K (.ref CPl) "class_of" = some (some (.ref fCo))) (iCo : PySem.W.isFn K (.ref fCo) = true)
    (lCo : K.lookup fCo = some ⟨ocCo, odCo, .func (PySem.W.fnOf "class_of" "Plan.class_of" (defArgs (sPl 5)) (defBody (sPl 5)) (defScope (sPl 5)) .none kVCo dcCo pmCo anCo cdCo ctCo), slCo⟩) (cCo : PySem.W.codeIn K cdCo "Plan.class_of" = true) (kCo : PySem.W.keepIn K (.ref fCo) = true)
    (aCk : PySem.W.findIn K (.ref CPl) "_check" = some (some (.ref fCk))) (iCk : PySem.W.isFn K (.ref fCk) = true)
    (lCk : K.lookup fCk = some ⟨ocCk, odCk, .func (PySem.W.fnOf "_check" "Plan._check" (defArgs (sPl 6)) (defBody (sPl 6)) (defScope (sPl 6)) .none kVCk dcCk pmCk anCk cdCk ctCk), slCk⟩) (cCk : PySem.W.codeIn K cdCk "Plan._check" = true) (kCk : PySem.W.keepIn K (.ref fCk) = true)
    (aSc : PySem.W.findIn K (.ref CPl) "_scale" = some (some (.ref fSc))) (iSc : PySem.W.isFn K (.ref fSc) = true)
    (lSc : K.lookup fSc = some ⟨ocSc, odSc, .func (PySem.W.fnOf "_scale" "Plan._scale" (defArgs (sPl 7)) (defBody (sPl 7)) (defScope (sPl 7)) .none kVSc dcSc pmSc anSc cdSc ctSc), slSc⟩) (cSc : PySem.W.codeIn K cdSc "Plan._scale" = true) (kSc : PySem.W.keepIn K (.ref fSc) = true)
    (aHv : PySem.W.findIn K (.ref CPl) "_has_values" = some (some (.ref fHv))) (iHv : PySem.W.isFn K (.ref fHv) = true)
    (lHv : K.lookup fHv = some ⟨ocHv, odHv, .func (PySem.W.fnOf "_has_values" "Plan._has_values" (defArgs (sPl 8)) (defBody (sPl 8)) (defScope (sPl 8)) .none kVHv dcHv pmHv anHv cdHv ctHv), slHv⟩) (cHv : PySem.W.codeIn K cdHv "Plan._has_values" = true) (kHv : PySem.W.keepIn K (.ref fHv) = true)
    (aCell : PySem.W.nsIn K mainGlobals "_law_cell" = some (some (.ref fCell)))
    (lCell : K.lookup fCell = some ⟨ocCell, odCell, .func (PySem.W.fnOf "_law_cell" "_law_cell" (defArgs sCell) (defBody sCell) (defScope sCell) .none kVCell dcCell pmCell anCell cdCell ctCell), slCell⟩) (cCell : PySem.W.codeIn K cdCell "_law_cell" = true) (kCell : PySem.W.keepIn K (.ref fCell) = true)
    (aRich : PySem.W.nsIn K mainGlobals "_law_rich" = some (some (.ref fRich)))
    (lRich : K.lookup fRich = some ⟨ocRich, odRich, .func (PySem.W.fnOf "_law_rich" "_law_rich" (defArgs sRich) (defBody sRich) (defScope sRich) .none kVRich dcRich pmRich anRich cdRich ctRich), slRich⟩) (cRich : PySem.W.codeIn K cdRich "_law_rich" = true) (kRich : PySem.W.keepIn K (.ref fRich) = true)
    (aAA : PySem.W.nsIn K mainGlobals "_law_any_attributes" = some (some (.ref fAA)))
    (lAA : K.lookup fAA = some ⟨ocAA, odAA, .func (PySem.W.fnOf "_law_any_attributes" "_law_any_attributes" (defArgs sAA) (defBody sAA) (defScope sAA) .none kVAA dcAA pmAA anAA cdAA ctAA), slAA⟩) (cAA : PySem.W.codeIn K cdAA "_law_any_attributes" = true) (kAA : PySem.W.keepIn K (.ref fAA) = true)
    (aAG : PySem.W.nsIn K mainGlobals "_law_any_grouping" = some (some (.ref fAG)))
    (lAG : K.lookup fAG = some ⟨ocAG, odAG, .func (PySem.W.fnOf "_law_any_grouping" "_law_any_grouping" (defArgs sAG) (defBody sAG) (defScope sAG) .none kVAG dcAG pmAG anAG cdAG ctAG), slAG⟩) (cAG : PySem.W.codeIn K cdAG "_law_any_grouping" = true) (kAG : PySem.W.keepIn K (.ref fAG) = true)
    (aAT : PySem.W.nsIn K mainGlobals "_law_any_tables" = some (some (.ref fAT)))
    (lAT : K.lookup fAT = some ⟨ocAT, odAT, .func (PySem.W.fnOf "_law_any_tables" "_law_any_tables" (defArgs sAT) (defBody sAT) (defScope sAT) .none kVAT dcAT pmAT anAT cdAT ctAT), slAT⟩) (cAT : PySem.W.codeIn K cdAT "_law_any_tables" = true) (kAT : PySem.W.keepIn K (.ref fAT) = true)
    (aLC : PySem.W.nsIn K mainGlobals "_law_class_names" = some (some (.ref fLC)))
    (lLC : K.lookup fLC = some ⟨ocLC, odLC, .func (PySem.W.fnOf "_law_class_names" "_law_class_names" (defArgs sLC) (defBody sLC) (defScope sLC) .none kVLC dcLC pmLC anLC cdLC ctLC), slLC⟩) (cLC : PySem.W.codeIn K cdLC "_law_class_names" = true) (kLC : PySem.W.keepIn K (.ref fLC) = true)
    (aBr : PySem.W.nsIn K mainGlobals "_law_broken" = some (some (.ref fBr)))
    (lBr : K.lookup fBr = some ⟨ocBr, odBr, .func (PySem.W.fnOf "_law_broken" "_law_broken" (defArgs sBr) (defBody sBr) (defScope sBr) .none kVBr dcBr pmBr anBr cdBr ctBr), slBr⟩) (cBr : PySem.W.codeIn K cdBr "_law_broken" = true) (kBr : PySem.W.keepIn K (.ref fBr) = true)
    (aLaw : PySem.W.nsIn K mainGlobals "law" = some (some (.ref fLaw)))
    (lLaw : K.lookup fLaw = some ⟨ocLaw, odLaw, .func (PySem.W.fnOf "law" "law" (defArgs sLaw) (defBody sLaw) (defScope sLaw) .none kVLaw dcLaw pmLaw anLaw cdLaw ctLaw), slLaw⟩) (cLaw : PySem.W.codeIn K cdLaw "law" = true) (kLaw : PySem.W.keepIn K (.ref fLaw) = true)
    (qpg : PySem.W.plainGet K CPl Str.empty = true)
    (qhd : PySem.W.hasDictIn K CPl = true)
    (qpo : PySem.W.plainOver K CPl = true)
    (qsa : PySem.W.findIn K (.ref CPl) "__setattr__" = some (some (.builtin "object.__setattr__")))
    (qmk : PySem.W.makesIn K CPl = true)
    (qkc : PySem.W.keepIn K (.ref CPl) = true)
    (qAr : PySem.W.findIn K (.ref CPl) "areas" = some none)
    (qAt : PySem.W.findIn K (.ref CPl) "_attributes" = some none)
    (qTb : PySem.W.findIn K (.ref CPl) "_tables" = some none)
    (qCl : PySem.W.findIn K (.ref CPl) "_classes" = some none)
    (qSc : PySem.W.findIn K (.ref CPl) "_scales" = some none)
    (xR : PySem.W.excIn K CR [.type "ValueError", .type "Exception", .type "BaseException", .type "object"] "ValueError.__new__" = true)
    (pg : PySem.W.plainGet K CT Str.empty = true)
    (hd : PySem.W.hasDictIn K CT = true)
    (po : PySem.W.plainOver K CT = true)
    (sa : PySem.W.findIn K (.ref CT) "__setattr__" = some (some (.builtin "object.__setattr__")))
    (mk : PySem.W.makesIn K CT = true)
    (kc : PySem.W.keepIn K (.ref CT) = true)
    (nP : PySem.W.findIn K (.ref CT) "_parents" = some none)
    (nC : PySem.W.findIn K (.ref CT) "_children" = some none)
    (nR : PySem.W.findIn K (.ref CT) "root" = some none)
    (xP : PySem.W.excIn K CP [.type "ValueError", .type "Exception", .type "BaseException", .type "object"] "ValueError.__new__" = true)
    (saU : PySem.W.findIn K (.ref CU) "__setattr__" = some (some (.builtin "object.__setattr__")))
    (tI : PySem.W.typeIn K (.ref fUInit) = some (.type "function"))
    (nNm : PySem.W.findIn K (.ref CU) "name" = some none)
    (rdB : PySem.W.readsIn K CB (.type "type") = true)
    (gaB : PySem.W.specialIn K (.ref CB) "__getattribute__" = some (some (.builtin "type.__getattribute__")))
    (fcB : PySem.W.findCls K (.ref CB) (.type "type") "__init__" = some (.val (.builtin "ValueError.__init__")))
    (bB : PySem.W.subIn K (.ref CB) (.type "BaseException") = some true)
    (dB : PySem.W.hasDictIn K CB = true)
    (tB : PySem.W.typeIn K (.ref CB) = some (.type "type"))
    (e6 : PySem.W.specialIn K (.builtin "object.__class__") "__get__" = some (some (.builtin "getset_descriptor.__get__")))
    (e7 : PySem.W.takesIn K (.builtin "object.__class__") = some true)
    (kP : PySem.W.keepIn K (.ref CP) = true)
    (bP : PySem.W.subIn K (.ref CP) (.type "BaseException") = some true)
    (tP : PySem.W.typeIn K (.ref CP) = some (.type "type"))
    (sP : PySem.W.subIn K (.ref CP) (.ref CB) = some true)
    (e1P : PySem.W.findIn K (.ref CP) "__getattribute__" = some (some (.builtin "BaseException.__getattribute__")))
    (e2P : PySem.W.findIn K (.ref CP) "__getattr__" = some none)
    (e4P : PySem.W.hasDictIn K CP = true)
    (e5P : PySem.W.findIn K (.ref CP) "__class__" = some (some (.builtin "object.__class__")))
    (e8P : PySem.W.mroIn K CP (.type "object") = some true)
    (ktP : PySem.W.kitOne K (.ref CP) (.ref CP) = some true)
    (kU : PySem.W.keepIn K (.ref CU) = true)
    (bU : PySem.W.subIn K (.ref CU) (.type "BaseException") = some true)
    (tU : PySem.W.typeIn K (.ref CU) = some (.type "type"))
    (sU : PySem.W.subIn K (.ref CU) (.ref CB) = some true)
    (e1U : PySem.W.findIn K (.ref CU) "__getattribute__" = some (some (.builtin "BaseException.__getattribute__")))
    (e2U : PySem.W.findIn K (.ref CU) "__getattr__" = some none)
    (e4U : PySem.W.hasDictIn K CU = true)
    (e5U : PySem.W.findIn K (.ref CU) "__class__" = some (some (.builtin "object.__class__")))
    (e8U : PySem.W.mroIn K CU (.type "object") = some true)
    (ktU : PySem.W.kitOne K (.ref CU) (.ref CU) = some true)
    (kR : PySem.W.keepIn K (.ref CR) = true)
    (bR : PySem.W.subIn K (.ref CR) (.type "BaseException") = some true)
    (tR : PySem.W.typeIn K (.ref CR) = some (.type "type"))
    (sR : PySem.W.subIn K (.ref CR) (.ref CB) = some true)
    (e1R : PySem.W.findIn K (.ref CR) "__getattribute__" = some (some (.builtin "BaseException.__getattribute__")))
    (e2R : PySem.W.findIn K (.ref CR) "__getattr__" = some none)
    (e4R : PySem.W.hasDictIn K CR = true)
    (e5R : PySem.W.findIn K (.ref CR) "__class__" = some (some (.builtin "object.__class__")))
    (e8R : PySem.W.mroIn K CR (.type "object") = some true)
    (ktR : PySem.W.kitOne K (.ref CR) (.ref CR) = some true)
    (zrange : PySem.W.nsIn K mainGlobals "range" = some none)
    (zlen : PySem.W.nsIn K mainGlobals "len" = some none)
    (zlist : PySem.W.nsIn K mainGlobals "list" = some none)
    (zall : PySem.W.nsIn K mainGlobals "all" = some none)
    (zabs : PySem.W.nsIn K mainGlobals "abs" = some none)
    (zint : PySem.W.nsIn K mainGlobals "int" = some none)
    (zisinstance : PySem.W.nsIn K mainGlobals "isinstance" = some none)
    (zset : PySem.W.nsIn K mainGlobals "set" = some none)
    (zsorted : PySem.W.nsIn K mainGlobals "sorted" = some none)
    (ztuple : PySem.W.nsIn K mainGlobals "tuple" = some none)
    (zzip : PySem.W.nsIn K mainGlobals "zip" = some none)
    (zenumerate : PySem.W.nsIn K mainGlobals "enumerate" = some none)
    : ∃ fd : FuncData, (∀ (s : Shared) (v : Value), BindsTo s fd ⟨[v], []⟩ [("script", v)]) ∧ ∀ base : Heap, K.In base → base.Ns mainGlobals mg → FnOk P w K mg base (L2N.CX P w) 8 fa fd ["script"] (spLaw K) := by
  have e := hfa.symm.trans (PySem.W.mg_of X G aLaw)
  cases e
  have N : ∀ {x : Str}, PySem.W.nsIn K mainGlobals x = some none → mg x = none := fun h => PySem.W.mg_none_of X G h
  have T : Tp K mg CP CU CT := ⟨N zrange, N zlen, N zlist, N zall, N zabs, N zint, N zisinstance, ⟨_, PySem.W.mg_of X G gL⟩, ⟨_, PySem.W.mg_of X G gC⟩, ⟨_, PySem.W.mg_of X G gN⟩, ⟨xP, PySem.W.mg_of X G aP, kP, bP, tP⟩⟩
  have U : Tt K CT := ⟨⟨pg, hd, po, sa⟩, nP, nC, nR⟩
  have Q : Tpl K CPl := ⟨⟨qpg, qhd, qpo, qsa⟩, qAr, qAt, qTb, qCl, qSc⟩
  have V : Tw mg := ⟨N zset, N zsorted, N ztuple, N zzip, N zenumerate⟩
  have W : Tq K mg CP CU CR CB := ⟨PySem.W.mg_of X G aB, PySem.W.mg_of X G aP, PySem.W.mg_of X G aU, PySem.W.mg_of X G aR, ⟨e1P, e2P, bP, e4P, e5P, e6, e7, e8P⟩, ⟨e1U, e2U, bU, e4U, e5U, e6, e7, e8U⟩, ⟨e1R, e2R, bR, e4R, e5R, e6, e7, e8R⟩, ⟨e1U, e2U, bU, e4U⟩, nNm, ktP, ktU, ktR, PySem.W.exm_ref bB dB tB sP, PySem.W.exm_ref bB dB tB sU, PySem.W.exm_ref bB dB tB sR⟩
  have TR : ErrC K mg "InvalidRecord" CR := ⟨xR, PySem.W.mg_of X G aR, kR, bR, tR⟩
  have OU : OexC K CU := ⟨⟨nm, q, NA, bs, _, sn, sub, ab, col, dd, m0, m1, m2, m3, m5, xU, rfl⟩, saU, bU, tU, kU⟩
  have B0 : BasC K mg "CellguardError" CB := ⟨PySem.W.mg_of X G aB, ⟨rdB, gaB⟩, fcB⟩
  have FIsName := fun_mk (st := sIsName) lIsName cIsName kIsName
  have bIsName := FIsName.binds (ps := ["text"]) fun _ _ _ _ _ _ us hl => match us, hl with | [_], _ => rfl
  have FFits := fun_mk (st := sFits) lFits cFits kFits
  have bFits := FFits.binds (ps := ["parents", "name", "parent"]) fun _ _ _ _ _ _ us hl => match us, hl with | [_, _, _], _ => rfl
  have FChecked := fun_mk (st := sChecked) lChecked cChecked kChecked
  have bChecked := FChecked.binds (ps := ["areas"]) fun _ _ _ _ _ _ us hl => match us, hl with | [_], _ => rfl
  have FUInit := fun_mk (st := sUInit) lUInit cUInit kUInit
  have bUInit := FUInit.binds (ps := ["self", "name"]) fun _ _ _ _ _ _ us hl => match us, hl with | [_, _], _ => rfl
  have FTInit := fun_mk (st := (sTree 0)) lTInit cTInit kTInit
  have bTInit := FTInit.binds (ps := ["self", "areas"]) fun _ _ _ _ _ _ us hl => match us, hl with | [_, _], _ => rfl
  have FNames := fun_mk (st := (sTree 1)) lNames cNames kNames
  have bNames := FNames.binds (ps := ["self"]) fun _ _ _ _ _ _ us hl => match us, hl with | [_], _ => rfl
  have FAF := fun_mk (st := sAF) lAF cAF kAF
  have bAF := FAF.binds (ps := ["attributes", "name", "values"]) fun _ _ _ _ _ _ us hl => match us, hl with | [_, _, _], _ => rfl
  have FIG := fun_mk (st := sIG) lIG cIG kIG
  have bIG := FIG.binds (ps := ["values", "grouping"]) fun _ _ _ _ _ _ us hl => match us, hl with | [_, _], _ => rfl
  have FTF := fun_mk (st := sTF) lTF cTF kTF
  have bTF := FTF.binds (ps := ["attributes", "tables", "name", "dimensions"]) fun _ _ _ _ _ _ us hl => match us, hl with | [_, _, _, _], _ => rfl
  have FCD := fun_mk (st := sCD) lCD cCD kCD
  have bCD := FCD.binds (ps := ["dimensions"]) fun _ _ _ _ _ _ us hl => match us, hl with | [_], _ => rfl
  have FCA := fun_mk (st := sCA) lCA cCA kCA
  have bCA := FCA.binds (ps := ["attributes"]) fun _ _ _ _ _ _ us hl => match us, hl with | [_], _ => rfl
  have FCTb := fun_mk (st := sCT) lCTb cCTb kCTb
  have bCTb := FCTb.binds (ps := ["attributes", "tables"]) fun _ _ _ _ _ _ us hl => match us, hl with | [_, _], _ => rfl
  have FGN := fun_mk (st := sGN) lGN cGN kGN
  have bGN := FGN.binds (ps := ["grouping"]) fun _ _ _ _ _ _ us hl => match us, hl with | [_], _ => rfl
  have FCN := fun_mk (st := sCN) lCN cCN kCN
  have bCN := FCN.binds (ps := ["dimensions"]) fun _ _ _ _ _ _ us hl => match us, hl with | [_], _ => rfl
  have FGX := fun_mk (st := sGX) lGX cGX kGX
  have bGX := FGX.binds (ps := ["grouping"]) fun _ _ _ _ _ _ us hl => match us, hl with | [_], _ => rfl
  have FPI := fun_mk (st := (sPl 0)) lPI cPI kPI
  have bPI := FPI.binds (ps := ["self", "areas", "attributes", "tables"]) fun _ _ _ _ _ _ us hl => match us, hl with | [_, _, _, _], _ => rfl
  have FAts := fun_mk (st := (sPl 1)) lAts cAts kAts
  have bAts := FAts.binds (ps := ["self"]) fun _ _ _ _ _ _ us hl => match us, hl with | [_], _ => rfl
  have FTbs := fun_mk (st := (sPl 2)) lTbs cTbs kTbs
  have bTbs := FTbs.binds (ps := ["self"]) fun _ _ _ _ _ _ us hl => match us, hl with | [_], _ => rfl
  have FCls := fun_mk (st := (sPl 3)) lCls cCls kCls
  have bCls := FCls.binds (ps := ["self", "table"]) fun _ _ _ _ _ _ us hl => match us, hl with | [_, _], _ => rfl
  have FDi := fun_mk (st := (sPl 4)) lDi cDi kDi
  have bDi := FDi.binds (ps := ["self", "table"]) fun _ _ _ _ _ _ us hl => match us, hl with | [_, _], _ => rfl
  have FCo := fun_mk (st := (sPl 5)) lCo cCo kCo
  have bCo := FCo.binds (ps := ["self", "table", "values"]) fun _ _ _ _ _ _ us hl => match us, hl with | [_, _, _], _ => rfl
  have FCk := fun_mk (st := (sPl 6)) lCk cCk kCk
  have bCk := FCk.binds (ps := ["self", "table"]) fun _ _ _ _ _ _ us hl => match us, hl with | [_, _], _ => rfl
  have FSc := fun_mk (st := (sPl 7)) lSc cSc kSc
  have bSc := FSc.binds (ps := ["self", "table"]) fun _ _ _ _ _ _ us hl => match us, hl with | [_, _], _ => rfl
  have FHv := fun_mk (st := (sPl 8)) lHv cHv kHv
  have bHv := FHv.binds (ps := ["self", "values"]) fun _ _ _ _ _ _ us hl => match us, hl with | [_, _], _ => rfl
  have FCell := fun_mk (st := sCell) lCell cCell kCell
  have bCell := FCell.binds (ps := ["script", "k"]) fun _ _ _ _ _ _ us hl => match us, hl with | [_, _], _ => rfl
  have FRich := fun_mk (st := sRich) lRich cRich kRich
  have bRich := FRich.binds (ps := ["cell"]) fun _ _ _ _ _ _ us hl => match us, hl with | [_], _ => rfl
  have FAA := fun_mk (st := sAA) lAA cAA kAA
  have bAA := FAA.binds (ps := ["number"]) fun _ _ _ _ _ _ us hl => match us, hl with | [_], _ => rfl
  have FAG := fun_mk (st := sAG) lAG cAG kAG
  have bAG := FAG.binds (ps := ["values", "number"]) fun _ _ _ _ _ _ us hl => match us, hl with | [_, _], _ => rfl
  have FAT := fun_mk (st := sAT) lAT cAT kAT
  have bAT := FAT.binds (ps := ["attributes", "number"]) fun _ _ _ _ _ _ us hl => match us, hl with | [_, _], _ => rfl
  have FLC := fun_mk (st := sLC) lLC cLC kLC
  have bLC := FLC.binds (ps := ["dimensions"]) fun _ _ _ _ _ _ us hl => match us, hl with | [_], _ => rfl
  have FBr := fun_mk (st := sBr) lBr cBr kBr
  have bBr := FBr.binds (ps := ["attributes", "tables", "way"]) fun _ _ _ _ _ _ us hl => match us, hl with | [_, _, _], _ => rfl
  have FLaw := fun_mk (st := sLaw) lLaw cLaw kLaw
  refine ⟨PySem.W.fnOf "law" "law" (defArgs sLaw) (defBody sLaw) (defScope sLaw) .none kVLaw dcLaw pmLaw anLaw cdLaw ctLaw, fun s v => .of_eq rfl, fun base _ _ => ?_⟩
  have TU : FldC P w K mg base 1 "UnknownName" "name" CU := ⟨OU, PySem.W.mg_of X G aU, ⟨_, _, aUInit, tI, bUInit, ok_uinit FUInit OU B0 nNm⟩⟩
  have tIsName : Kn P w K mg base 1 "is_name" ["text"] spIsName := ⟨_, _, ok_isName FIsName T, PySem.W.mg_of X G aIsName, kIsName, bIsName⟩
  have tFits : Kn P w K mg base 2 "area_fits" ["parents", "name", "parent"] spFits := ⟨_, _, ok_fits FFits tIsName, PySem.W.mg_of X G aFits, kFits, bFits⟩
  have tChecked : Kn P w K mg base 3 "checked_parents" ["areas"] (spChecked CP) := ⟨_, _, ok_checked FChecked T tFits, PySem.W.mg_of X G aChecked, kChecked, bChecked⟩
  have tNames : KnM P w K mg base 1 CT "names" ["self"] (spNames CT) := ⟨⟨_, _, ok_names FNames U (N zlist), ⟨aNames, iNames, kNames⟩, bNames⟩, U.c⟩
  have tTI : KnI P w K mg base 4 CT "AreaTree" ["self", "areas"] (spTI CP CT) := ⟨_, _, ok_treeInit FTInit U tChecked, ⟨mk, aTInit, iTInit, kc⟩, PySem.W.mg_of X G aT, bTInit⟩
  have tAF : Kn P w K mg base 2 "attribute_fits" ["attributes", "name", "values"] spAF := ⟨_, _, ok_af FAF T V tIsName, PySem.W.mg_of X G aAF, kAF, bAF⟩
  have tCA : Kn P w K mg base 3 "checked_attributes" ["attributes"] (spCA CP) := ⟨_, _, ok_ca FCA T tAF, PySem.W.mg_of X G aCA, kCA, bCA⟩
  have tIG : Kn P w K mg base 1 "is_grouping" ["values", "grouping"] spIG := ⟨_, _, ok_ig FIG T V, PySem.W.mg_of X G aIG, kIG, bIG⟩
  have tTF : Kn P w K mg base 2 "table_fits" ["attributes", "tables", "name", "dimensions"] spTF := ⟨_, _, ok_tf FTF T tIsName tIG, PySem.W.mg_of X G aTF, kTF, bTF⟩
  have tCD : Kn P w K mg base 1 "copied_dimensions" ["dimensions"] (spCD rDmP) := ⟨_, _, ok_cd Lis.pl Lis.pl Lis.pl FCD T, PySem.W.mg_of X G aCD, kCD, bCD⟩
  have tCDl : Kn P w K mg base 1 "copied_dimensions" ["dimensions"] (spCD rDmL) := ⟨_, _, ok_cd Lis.lk Lis.lk Lis.lk FCD T, PySem.W.mg_of X G aCD, kCD, bCD⟩
  have tCTb : Kn P w K mg base 3 "checked_tables" ["attributes", "tables"] (spCT CP) := ⟨_, _, ok_ct FCTb T tTF tCD, PySem.W.mg_of X G aCTb, kCTb, bCTb⟩
  have tGN : Kn P w K mg base 1 "group_names" ["grouping"] spGN := ⟨_, _, ok_gn FGN, PySem.W.mg_of X G aGN, kGN, bGN⟩
  have tCN : Kn P w K mg base 2 "class_names" ["dimensions"] spCN := ⟨_, _, ok_cn FCN tGN, PySem.W.mg_of X G aCN, kCN, bCN⟩
  have tGX : Kn P w K mg base 1 "group_numbers" ["grouping"] spGX := ⟨_, _, ok_gx FGX V, PySem.W.mg_of X G aGX, kGX, bGX⟩
  have tSc : KnM P w K mg base 2 CPl "_scale" ["self", "table"] (spSc CPl CT) := ⟨⟨_, _, ok_sc FSc T V Q tGX, ⟨aSc, iSc, kSc⟩, bSc⟩, Q.c⟩
  have tPI : KnI P w K mg base 6 CPl "Plan" ["self", "areas", "attributes", "tables"] (spPI CP CPl CT) := ⟨_, _, ok_planInit FPI T Q tTI tCA tCTb tCN tSc, ⟨qmk, aPI, iPI, qkc⟩, PySem.W.mg_of X G aPl, bPI⟩
  have tCk : KnM P w K mg base 3 CPl "_check" ["self", "table"] (spCk CPl CT CU) := ⟨⟨_, _, ok_ck FCk Q TU, ⟨aCk, iCk, kCk⟩, bCk⟩, Q.c⟩
  have tCls : KnM P w K mg base 4 CPl "classes" ["self", "table"] (spCls CPl CT CU) := ⟨⟨_, _, ok_cls FCls T Q tCk, ⟨aCls, iCls, kCls⟩, bCls⟩, Q.c⟩
  have tDi : KnM P w K mg base 4 CPl "dimensions" ["self", "table"] (spDi CPl CT CU) := ⟨⟨_, _, ok_di FDi Q tCk tCDl, ⟨aDi, iDi, kDi⟩, bDi⟩, Q.c⟩
  have tHv : KnM P w K mg base 1 CPl "_has_values" ["self", "values"] (spHv CPl CT) := ⟨⟨_, _, ok_hv FHv T V Q, ⟨aHv, iHv, kHv⟩, bHv⟩, Q.c⟩
  have tCo : KnM P w K mg base 4 CPl "class_of" ["self", "table", "values"] (spCo CPl CT CU CR) := ⟨⟨_, _, ok_co FCo Q TR tCk tHv, ⟨aCo, iCo, kCo⟩, bCo⟩, Q.c⟩
  have tAts : KnM P w K mg base 1 CPl "attributes" ["self"] (spAts CPl CT) := ⟨⟨_, _, ok_ats FAts T Q, ⟨aAts, iAts, kAts⟩, bAts⟩, Q.c⟩
  have tTbs : KnM P w K mg base 1 CPl "tables" ["self"] (spTbs CPl CT) := ⟨⟨_, _, ok_tbs FTbs T Q, ⟨aTbs, iTbs, kTbs⟩, bTbs⟩, Q.c⟩
  have tCell : Kn P w K mg base 1 "_law_cell" ["script", "k"] (spCell K) := ⟨_, _, ok_cell FCell T, PySem.W.mg_of X G aCell, kCell, bCell⟩
  have tRich : Kn P w K mg base 1 "_law_rich" ["cell"] spRich := ⟨_, _, ok_rich FRich T, PySem.W.mg_of X G aRich, kRich, bRich⟩
  have tAA : Kn P w K mg base 1 "_law_any_attributes" ["number"] spAA := ⟨_, _, ok_aa FAA T, PySem.W.mg_of X G aAA, kAA, bAA⟩
  have tAG : Kn P w K mg base 1 "_law_any_grouping" ["values", "number"] spAG := ⟨_, _, ok_ag FAG T, PySem.W.mg_of X G aAG, kAG, bAG⟩
  have tAT : Kn P w K mg base 2 "_law_any_tables" ["attributes", "number"] spAT := ⟨_, _, ok_at FAT T tAG, PySem.W.mg_of X G aAT, kAT, bAT⟩
  have tLC : Kn P w K mg base 1 "_law_class_names" ["dimensions"] spLC := ⟨_, _, ok_lc FLC, PySem.W.mg_of X G aLC, kLC, bLC⟩
  have tBr : Kn P w K mg base 1 "_law_broken" ["attributes", "tables", "way"] spBr := ⟨_, _, ok_br FBr, PySem.W.mg_of X G aBr, kBr, bBr⟩
  exact ok_law FLaw T V W Q tCell tRich tAA tAT tLC tBr tPI tNames tAts tTbs tCls tDi tCo
theorem walk {l : PySem.W.OpenLaw} {q : Program} {loose : List Str} {XP : (Str → Option Value) → Heap → Prop} {YP : World → Heap → Prop} {d : DefRec} {K : Params → PySem.W.Frag} (hn : l.most = some 63) (hdf : d.params.defaults = [])
    (hY : ∀ (w : World) (h : Heap), YP w h → (K w.params).In h)
    (F : ∀ (w : World) (mg : Str → Option Value) (fa : Addr) (h : Heap), (K w.params).In h → h.Ns mainGlobals mg → mg d.name = some (.ref fa) →
      ∃ fd : FuncData, (∀ (s : Shared) (u : Value), BindsTo s fd ⟨[u], []⟩ [("script", u)]) ∧ ∀ base : Heap, (K w.params).In base → base.Ns mainGlobals mg → FnOk l.prog w (K w.params) mg base (L2N.CX l.prog w) 8 fa fd ["script"] (spLaw (K w.params))) :
    PySem.W.WalkO q loose XP YP l.row.toRowW d [] (fun f vs => PySem.call f vs) :=
  L2.walk_of (n := 63) (k := 8) (x := "script") (CX := fun w => L2N.CX l.prog w) (sp := fun w => spLaw (K w.params)) hn (by decide) hdf ⟨rfl, by decide, by decide⟩ hY F
    (fun _ H a ns hl _ hS => ⟨ns, H, Ex.refl H, Ims.cons ⟨a, rfl, hS⟩ Ims.nil, hl, fun s hs v F' H' l' _ p _ => by cases hs; exact p.2, fun C hC => nomatch hC⟩)
    fun _ _ _ _ _ ⟨_, _, _, _, _, _, _, _, _, _, _, _, z⟩ => z
end K2
open PySem PySem.W PyProof.Rows
set_option maxRecDepth 100000 in
set_option maxHeartbeats 0 in
theorem PySem.Challenge.cw_cellguard_k02_plans_holds : PySem.Challenge.rw_cellguard_k02_plans.Holds := by
  w_on; o_law; k_head; (case hw => w_witness2)
  k_fill
  refine K2.walk (l := PySem.Challenge.rw_cellguard_k02_plans) rfl rfl (fun w h Y => PySem.W.kIn_of Y) ?F
  case F =>
    intro w mg fa h KX G hmg
    refine' K2.all_mk KX G hmg ?aB ?aP ?aU ?aT ?aR ?aPl ?gL ?gC ?gN ?xU ?aIsName ?lIsName ?cIsName ?kIsName ?aFits ?lFits ?cFits ?kFits ?aChecked ?lChecked ?cChecked ?kChecked ?aUInit ?iUInit ?lUInit ?cUInit ?kUInit ?aTInit ?iTInit ?lTInit ?cTInit ?kTInit ?aNames ?iNames ?lNames ?cNames ?kNames ?aAF ?lAF ?cAF ?kAF ?aIG ?lIG ?cIG ?kIG ?aTF ?lTF ?cTF ?kTF ?aCD ?lCD ?cCD ?kCD ?aCA ?lCA ?cCA ?kCA ?aCTb ?lCTb ?cCTb ?kCTb ?aGN ?lGN ?cGN ?kGN ?aCN ?lCN ?cCN ?kCN ?aGX ?lGX ?cGX ?kGX ?aPI ?iPI ?lPI ?cPI ?kPI ?aAts ?iAts ?lAts ?cAts ?kAts ?aTbs ?iTbs ?lTbs ?cTbs ?kTbs ?aCls ?iCls ?lCls ?cCls ?kCls ?aDi ?iDi ?lDi ?cDi ?kDi ?aCo ?iCo ?lCo ?cCo ?kCo ?aCk ?iCk ?lCk ?cCk ?kCk ?aSc ?iSc ?lSc ?cSc ?kSc ?aHv ?iHv ?lHv ?cHv ?kHv ?aCell ?lCell ?cCell ?kCell ?aRich ?lRich ?cRich ?kRich ?aAA ?lAA ?cAA ?kAA ?aAG ?lAG ?cAG ?kAG ?aAT ?lAT ?cAT ?kAT ?aLC ?lLC ?cLC ?kLC ?aBr ?lBr ?cBr ?kBr ?aLaw ?lLaw ?cLaw ?kLaw ?qpg ?qhd ?qpo ?qsa ?qmk ?qkc ?qAr ?qAt ?qTb ?qCl ?qSc ?xR ?pg ?hd ?po ?sa ?mk ?kc ?nP ?nC ?nR ?xP ?saU ?tI ?nNm ?rdB ?gaB ?fcB ?bB ?dB ?tB ?e6 ?e7 ?kP ?bP ?tP ?sP ?e1P ?e2P ?e4P ?e5P ?e8P ?ktP ?kU ?bU ?tU ?sU ?e1U ?e2U ?e4U ?e5U ?e8U ?ktU ?kR ?bR ?tR ?sR ?e1R ?e2R ?e4R ?e5R ?e8R ?ktR ?zrange ?zlen ?zlist ?zall ?zabs ?zint ?zisinstance ?zset ?zsorted ?ztuple ?zzip ?zenumerate
    (case aB => k_is)
    (case aP => k_is)
    (case aU => k_is)
    (case aT => k_is)
    (case aR => k_is)
    (case aPl => k_is)
    (case gL => k_is)
    (case gC => k_is)
    (case gN => k_is)
    (case xU => k_is)
    (case aIsName => k_is)
    (case lIsName => k_is)
    (case cIsName => k_is)
    (case kIsName => k_is)
    (case aFits => k_is)
    (case lFits => k_is)
    (case cFits => k_is)
    (case kFits => k_is)
    (case aChecked => k_is)
    (case lChecked => k_is)
    (case cChecked => k_is)
    (case kChecked => k_is)
    (case aUInit => k_is)
    (case iUInit => k_is)
    (case lUInit => k_is)
    (case cUInit => k_is)
    (case kUInit => k_is)
    (case aTInit => k_is)
    (case iTInit => k_is)
    (case lTInit => k_is)
    (case cTInit => k_is)
    (case kTInit => k_is)
    (case aNames => k_is)
    (case iNames => k_is)
    (case lNames => k_is)
    (case cNames => k_is)
    (case kNames => k_is)
    (case aAF => k_is)
    (case lAF => k_is)
    (case cAF => k_is)
    (case kAF => k_is)
    (case aIG => k_is)
    (case lIG => k_is)
    (case cIG => k_is)
    (case kIG => k_is)
    (case aTF => k_is)
    (case lTF => k_is)
    (case cTF => k_is)
    (case kTF => k_is)
    (case aCD => k_is)
    (case lCD => k_is)
    (case cCD => k_is)
    (case kCD => k_is)
    (case aCA => k_is)
    (case lCA => k_is)
    (case cCA => k_is)
    (case kCA => k_is)
    (case aCTb => k_is)
    (case lCTb => k_is)
    (case cCTb => k_is)
    (case kCTb => k_is)
    (case aGN => k_is)
    (case lGN => k_is)
    (case cGN => k_is)
    (case kGN => k_is)
    (case aCN => k_is)
    (case lCN => k_is)
    (case cCN => k_is)
    (case kCN => k_is)
    (case aGX => k_is)
    (case lGX => k_is)
    (case cGX => k_is)
    (case kGX => k_is)
    (case aPI => k_is)
    (case iPI => k_is)
    (case lPI => k_is)
    (case cPI => k_is)
    (case kPI => k_is)
    (case aAts => k_is)
    (case iAts => k_is)
    (case lAts => k_is)
    (case cAts => k_is)
    (case kAts => k_is)
    (case aTbs => k_is)
    (case iTbs => k_is)
    (case lTbs => k_is)
    (case cTbs => k_is)
    (case kTbs => k_is)
    (case aCls => k_is)
    (case iCls => k_is)
    (case lCls => k_is)
    (case cCls => k_is)
    (case kCls => k_is)
    (case aDi => k_is)
    (case iDi => k_is)
    (case lDi => k_is)
    (case cDi => k_is)
    (case kDi => k_is)
    (case aCo => k_is)
    (case iCo => k_is)
    (case lCo => k_is)
    (case cCo => k_is)
    (case kCo => k_is)
    (case aCk => k_is)
    (case iCk => k_is)
    (case lCk => k_is)
    (case cCk => k_is)
    (case kCk => k_is)
    (case aSc => k_is)
    (case iSc => k_is)
    (case lSc => k_is)
    (case cSc => k_is)
    (case kSc => k_is)
    (case aHv => k_is)
    (case iHv => k_is)
    (case lHv => k_is)
    (case cHv => k_is)
    (case kHv => k_is)
    (case aCell => k_is)
    (case lCell => k_is)
    (case cCell => k_is)
    (case kCell => k_is)
    (case aRich => k_is)
    (case lRich => k_is)
    (case cRich => k_is)
    (case kRich => k_is)
    (case aAA => k_is)
    (case lAA => k_is)
    (case cAA => k_is)
    (case kAA => k_is)
    (case aAG => k_is)
    (case lAG => k_is)
    (case cAG => k_is)
    (case kAG => k_is)
    (case aAT => k_is)
    (case lAT => k_is)
    (case cAT => k_is)
    (case kAT => k_is)
    (case aLC => k_is)
    (case lLC => k_is)
    (case cLC => k_is)
    (case kLC => k_is)
    (case aBr => k_is)
    (case lBr => k_is)
    (case cBr => k_is)
    (case kBr => k_is)
    (case aLaw => k_is)
    (case lLaw => k_is)
    (case cLaw => k_is)
    (case kLaw => k_is)
    (case qpg => k_is)
    (case qhd => k_is)
    (case qpo => k_is)
    (case qsa => k_is)
    (case qmk => k_is)
    (case qkc => k_is)
    (case qAr => k_is)
    (case qAt => k_is)
    (case qTb => k_is)
    (case qCl => k_is)
    (case qSc => k_is)
    (case xR => k_exc)
    (case pg => k_is)
    (case hd => k_is)
    (case po => k_is)
    (case sa => k_is)
    (case mk => k_is)
    (case kc => k_is)
    (case nP => k_is)
    (case nC => k_is)
    (case nR => k_is)
    (case xP => k_exc)
    (case saU => k_is)
    (case tI => k_is)
    (case nNm => k_is)
    (case rdB => k_is)
    (case gaB => k_is)
    (case fcB => k_is)
    (case bB => k_is)
    (case dB => k_is)
    (case tB => k_is)
    (case e6 => k_is)
    (case e7 => k_is)
    (case kP => k_is)
    (case bP => k_is)
    (case tP => k_is)
    (case sP => first | rfl | k_is)
    (case e1P => k_is)
    (case e2P => k_is)
    (case e4P => k_is)
    (case e5P => k_is)
    (case e8P => k_is)
    (case ktP => first | k_is | rfl)
    (case kU => k_is)
    (case bU => k_is)
    (case tU => k_is)
    (case sU => first | rfl | k_is)
    (case e1U => k_is)
    (case e2U => k_is)
    (case e4U => k_is)
    (case e5U => k_is)
    (case e8U => k_is)
    (case ktU => first | k_is | rfl)
    (case kR => k_is)
    (case bR => k_is)
    (case tR => k_is)
    (case sR => first | rfl | k_is)
    (case e1R => k_is)
    (case e2R => k_is)
    (case e4R => k_is)
    (case e5R => k_is)
    (case e8R => k_is)
    (case ktR => first | k_is | rfl)
    (case zrange => k_is)
    (case zlen => k_is)
    (case zlist => k_is)
    (case zall => k_is)
    (case zabs => k_is)
    (case zint => k_is)
    (case zisinstance => k_is)
    (case zset => k_is)
    (case zsorted => k_is)
    (case ztuple => k_is)
    (case zzip => k_is)
    (case zenumerate => k_is)
