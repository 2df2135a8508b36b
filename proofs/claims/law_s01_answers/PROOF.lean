import PyProof.Rows.All
import VapatdSpec
import PyVapatd
import Wide.All
import OpenK.AllK
import Wide.FinOn
import KE.KStateDown
import Lean
import Open.SpecLaws
import KE.OsGo
import HandS.ForSpec
import HandS.More
import HandS.Defaults
import HandS.Head0
import HandS.Head1
import HandS.Head2
import HandS.Head3
import HandS.Head4
import HandS.HeadEnd
import HandS.HeadHook1
import HandS.HeadHook2
import HandS.HeadHook3
import HandS.HeadHook4
import PySem.Challenge.RW_rowsmerged_s01_answers
import HandS.ForMost
import HandS.IsInst
import HandS.TupAny
import HandS.Rev
import HandS.Flow
import HandS.Walk
import HandS.SetFor
import HandS.Strs
section
set_option autoImplicit false
namespace Rw
open VapatBase (Step Tokens Tree turned namesOf isInside inFile disjoint swapAll swapToken commutedInside commuted)

/-! ### Names disjoint -/
theorem disj_iff (l m : List Nat) : disjoint l m = true ↔ ∀ x ∈ l, x ∉ m := by
  simp [disjoint, List.all_eq_true]
theorem disj_false_iff (l m : List Nat) : disjoint l m = false ↔ ∃ x ∈ l, x ∈ m := by
  have h := disj_iff l m
  cases e : disjoint l m
  · rw [e] at h
    simp only [Bool.false_eq_true, false_iff] at h
    simp only [true_iff]
    apply Classical.byContradiction
    intro hn
    exact h fun x hx hm => hn ⟨x, hx, hm⟩
  · rw [e] at h
    simp only [true_iff] at h
    simp only [Bool.true_eq_false, false_iff]
    rintro ⟨x, hx, hm⟩
    exact h x hx hm
theorem disj_comm {l m : List Nat} (h : disjoint l m = true) : disjoint m l = true := by
  rw [disj_iff] at h ⊢
  exact fun x hx hl => h x hl hx

theorem swapToken_self (x y t : Nat) : swapToken x y (swapToken x y t) = t := by
  unfold swapToken; split <;> (try split) <;> (try split) <;> omega
theorem swapAll_self (x y : Nat) (l : Tokens) : swapAll x y (swapAll x y l) = l := by
  unfold swapAll
  rw [List.map_map]
  conv => rhs; rw [← List.map_id l]
  apply List.map_congr_left
  intro t _
  exact swapToken_self x y t
theorem swapToken_comm {x y u v : Nat} (h : disjoint [x, y] [u, v] = true) (t : Nat) : swapToken x y (swapToken u v t) = swapToken u v (swapToken x y t) := by
  rw [disj_iff] at h
  simp at h
  unfold swapToken
  repeat' split
  all_goals omega
theorem swapAll_comm {x y u v : Nat} (h : disjoint [x, y] [u, v] = true) (l : Tokens) : swapAll x y (swapAll u v l) = swapAll u v (swapAll x y l) := by
  unfold swapAll
  rw [List.map_map, List.map_map]
  apply List.map_congr_left
  intro t _
  exact swapToken_comm h t
theorem swapAll_len (x y : Nat) (l : Tokens) : (swapAll x y l).length = l.length := by
  simp [swapAll]

/-! ### One step beside another: what becomes of both -/
/-- edits of one file, without its name -/
inductive E where
  | h (a : Nat) (o n : Tokens)
  | s (x y : Nat)
def E.at_ (f : Nat) : E → Step
  | .h a o n => .hunk f a o n
  | .s x y => .swap f x y
inductive RE : E → E → E → E → Prop where
  | hh1 {a b : Nat} {o n u v : Tokens} : a + o.length < b → RE (.h a o n) (.h b u v) (.h (b - o.length + n.length) u v) (.h a o n)
  | hh2 {a b : Nat} {o n u v : Tokens} : b + u.length < a → RE (.h a o n) (.h b u v) (.h b u v) (.h (a - u.length + v.length) o n)
  | hs {a x y : Nat} {o n : Tokens} : RE (.h a o n) (.s x y) (.s x y) (.h a (swapAll x y o) (swapAll x y n))
  | sh {a x y : Nat} {o n : Tokens} : RE (.s x y) (.h a o n) (.h a (swapAll x y o) (swapAll x y n)) (.s x y)
  | ss {x y u v : Nat} : disjoint [x, y] [u, v] = true → RE (.s x y) (.s u v) (.s u v) (.s x y)
inductive R : Step → Step → Step → Step → Prop where
  | dj {p q : Step} : disjoint (namesOf p) (namesOf q) = true → R p q q p
  | inn {f : Nat} {p q q1 p1 : E} : RE p q q1 p1 → R (p.at_ f) (q.at_ f) (q1.at_ f) (p1.at_ f)
  | mi {f g : Nat} {q : E} : R (.move f g) (q.at_ f) (q.at_ g) (.move f g)
  | im {f g : Nat} {p : E} : R (p.at_ f) (.move f g) (.move f g) (p.at_ g)

theorem names_at (f : Nat) (e : E) : namesOf (e.at_ f) = [f] := by cases e <;> rfl
theorem inside_at (f : Nat) (e : E) : isInside (e.at_ f) = true := by cases e <;> rfl
theorem in_at (f g : Nat) (e : E) : inFile g (e.at_ f) = e.at_ g := by cases e <;> rfl
theorem turned_turned (p : Step) : turned (turned p) = p := by cases p <;> rfl
theorem names_turned_mem (p : Step) (x : Nat) : x ∈ namesOf (turned p) ↔ x ∈ namesOf p := by
  cases p <;> simp [turned, namesOf, or_comm]
theorem disj_turned (p q : Step) : disjoint (namesOf (turned p)) (namesOf q) = disjoint (namesOf p) (namesOf q) := by
  rw [Bool.eq_iff_iff, disj_iff, disj_iff]
  constructor
  · intro h x hx; exact h x ((names_turned_mem p x).mpr hx)
  · intro h x hx; exact h x ((names_turned_mem p x).mp hx)
def E.turned : E → E
  | .h a o n => .h a n o
  | .s x y => .s x y
theorem turned_at (f : Nat) (e : E) : turned (e.at_ f) = e.turned.at_ f := by cases e <;> rfl
theorem at_of_inside : ∀ p : Step, isInside p = true → ∃ f e, p = E.at_ f e
  | .hunk f a o n, _ => ⟨f, .h a o n, rfl⟩
  | .swap f x y, _ => ⟨f, .s x y, rfl⟩
  | .add _, h => by cases h
  | .remove _, h => by cases h
  | .move _ _, h => by cases h

theorem self_not_disj (f : Nat) (l m : List Nat) (h1 : f ∈ l) (h2 : f ∈ m) : disjoint l m = false := by
  rw [disj_false_iff]; exact ⟨f, h1, h2⟩

/-- **The relation is the specification's merging of two steps.** -/
theorem R_of_merged {p q q1 p1 : Step} (h : Vapatd.merged p q = some (q1, p1)) : R p q q1 p1 := by
  unfold Vapatd.merged at h
  unfold VapatBase.commuted at h
  rw [disj_turned] at h
  split at h
  · next hd =>
    simp only [Option.map_some, Option.some.injEq, Prod.mk.injEq] at h
    obtain ⟨rfl, h2⟩ := h
    rw [turned_turned] at h2
    subst h2
    exact .dj hd
  · next hd =>
    split at h
    · next hi =>
      rw [Bool.and_eq_true] at hi
      cases p with
      | hunk f a o n =>
        cases q with
        | hunk g b u v =>
          have e : f = g := by
            simp only [disj_iff, namesOf] at hd
            simp at hd
            exact hd
          subst e
          simp only [turned, commutedInside] at h
          split at h
          · next c =>
            simp only [Option.map_some, Option.some.injEq, Prod.mk.injEq] at h
            obtain ⟨rfl, rfl⟩ := h
            exact .inn (.hh1 (o := o) (n := n) c)
          · split at h
            · next c =>
              simp only [Option.map_some, Option.some.injEq, Prod.mk.injEq] at h
              obtain ⟨rfl, rfl⟩ := h
              exact .inn (.hh2 (o := o) (n := n) c)
            · cases h
        | swap g x y =>
          have e : f = g := by
            simp only [disj_iff, namesOf] at hd
            simp at hd
            exact hd
          subst e
          simp only [turned, commutedInside, Option.map_some, Option.some.injEq, Prod.mk.injEq] at h
          obtain ⟨rfl, rfl⟩ := h
          exact .inn (.hs (o := o) (n := n))
        | add _ => cases hi.2
        | remove _ => cases hi.2
        | move _ _ => cases hi.2
      | swap f x y =>
        cases q with
        | hunk g b u v =>
          have e : f = g := by
            simp only [disj_iff, namesOf] at hd
            simp at hd
            exact hd
          subst e
          simp only [turned, commutedInside, Option.map_some, Option.some.injEq, Prod.mk.injEq] at h
          obtain ⟨rfl, rfl⟩ := h
          exact .inn .sh
        | swap g u v =>
          have e : f = g := by
            simp only [disj_iff, namesOf] at hd
            simp at hd
            exact hd
          subst e
          simp only [turned, commutedInside] at h
          split at h
          · next c =>
            simp only [Option.map_some, Option.some.injEq, Prod.mk.injEq] at h
            obtain ⟨rfl, rfl⟩ := h
            exact .inn (.ss c)
          · cases h
        | add _ => cases hi.2
        | remove _ => cases hi.2
        | move _ _ => cases hi.2
      | add _ => cases hi.1
      | remove _ => cases hi.1
      | move _ _ => cases hi.1
    · next hi =>
      split at h
      · next q' f g hp =>
        split at h
        · next c =>
          simp only [Option.map_some, Option.some.injEq, Prod.mk.injEq] at h
          obtain ⟨rfl, rfl⟩ := h
          rw [Bool.and_eq_true] at c
          obtain ⟨k, e, rfl⟩ := at_of_inside _ c.1
          rw [names_at] at c
          have hk : k = g := by simpa using c.2
          subst hk
          have e2 : p = .move k f := by rw [← turned_turned p, hp]; rfl
          subst e2
          rw [in_at]
          exact .mi
        · cases h
      · next p' f g _ =>
        split at h
        · next c =>
          simp only [Option.map_some, Option.some.injEq, Prod.mk.injEq] at h
          obtain ⟨rfl, rfl⟩ := h
          rw [Bool.and_eq_true] at c
          obtain ⟨k, e, hk⟩ := at_of_inside _ c.1
          rw [hk, names_at] at c
          have hkf : k = f := by simpa using c.2
          subst hkf
          have e2 : p = e.turned.at_ k := by rw [← turned_turned p, hk, turned_at]
          subst e2
          rw [hk, in_at, turned_at]
          exact .im
        · cases h
      · cases h

theorem merged_of_R {p q q1 p1 : Step} (h : R p q q1 p1) : Vapatd.merged p q = some (q1, p1) := by
  unfold Vapatd.merged VapatBase.commuted
  rw [disj_turned]
  cases h with
  | dj hd => rw [if_pos hd]; simp [turned_turned]
  | @inn f p q q1 p1 he =>
    rw [if_neg (by rw [names_at, names_at, self_not_disj f _ _ (by simp) (by simp)]; simp), turned_at, inside_at, inside_at, if_pos (by rfl)]
    cases he with
    | hh1 c => simp only [E.turned, E.at_, commutedInside]; rw [if_pos c]; rfl
    | @hh2 a b o n u v c =>
      simp only [E.turned, E.at_, commutedInside]
      rw [if_neg (by omega), if_pos c]; rfl
    | hs => rfl
    | sh => rfl
    | ss c => simp only [E.turned, E.at_, commutedInside]; rw [if_pos c]; rfl
  | @mi f g q =>
    rw [if_neg (by rw [names_at, self_not_disj f _ _ (by simp [namesOf]) (by simp)]; simp)]
    rw [if_neg (by simp [turned, isInside])]
    simp only [turned, inside_at, names_at, Bool.true_and, beq_self_eq_true, if_true, in_at, Option.map_some]
  | @im f g p =>
    rw [if_neg (by rw [names_at, self_not_disj f _ _ (by simp) (by simp [namesOf])]; simp)]
    rw [if_neg (by simp [isInside])]
    rw [turned_at]
    cases p <;> simp [E.turned, E.at_, isInside, namesOf, inFile, turned]

theorem merged_iff (p q q1 p1 : Step) : Vapatd.merged p q = some (q1, p1) ↔ R p q q1 p1 := ⟨R_of_merged, merged_of_R⟩
theorem R_fun {p q a b c d : Step} (h : R p q a b) (k : R p q c d) : a = c ∧ b = d := by
  have e := (merged_of_R h).symm.trans (merged_of_R k)
  simp only [Option.some.injEq, Prod.mk.injEq] at e
  exact e
/-- commuting is merging seen from the other side -/
theorem commuted_iff (p q q1 p1 : Step) : commuted p q = some (q1, p1) ↔ R (turned p) q q1 (turned p1) := by
  rw [← merged_iff]
  unfold Vapatd.merged
  rw [turned_turned]
  cases commuted p q with
  | none => simp
  | some r =>
    obtain ⟨a, b⟩ := r
    simp only [Option.some.injEq, Prod.mk.injEq, Option.map_some]
    constructor
    · rintro ⟨rfl, rfl⟩; exact ⟨rfl, rfl⟩
    · rintro ⟨rfl, h⟩; exact ⟨rfl, by rw [← turned_turned b, h, turned_turned]⟩
theorem RE_sym {p q q1 p1 : E} (h : RE p q q1 p1) : RE q p p1 q1 := by
  cases h with
  | hh1 c => exact .hh2 c
  | hh2 c => exact .hh1 c
  | hs => exact .sh
  | sh => exact .hs
  | ss c => exact .ss (disj_comm c)
theorem R_sym {p q q1 p1 : Step} (h : R p q q1 p1) : R q p p1 q1 := by
  cases h with
  | dj h => exact .dj (disj_comm h)
  | inn h => exact .inn (RE_sym h)
  | mi => exact .im
  | im => exact .mi
theorem RE_turn {p q q1 p1 : E} (h : RE p q q1 p1) : RE p.turned q1 q p1.turned := by
  cases h with
  | @hh1 a b o n u v c =>
    have e : b = (b - o.length + n.length) - n.length + o.length := by omega
    have := RE.hh1 (a := a) (b := b - o.length + n.length) (o := n) (n := o) (u := u) (v := v) (by omega)
    rw [← e] at this
    exact this
  | hh2 c => exact .hh2 c
  | hs => exact .hs
  | @sh a x y o n =>
    have := RE.sh (a := a) (x := x) (y := y) (o := swapAll x y o) (n := swapAll x y n)
    rw [swapAll_self, swapAll_self] at this
    exact this
  | ss c => exact .ss c
theorem R_turn {p q q1 p1 : Step} (h : R p q q1 p1) : R (turned p) q1 q (turned p1) := by
  cases h with
  | dj h => exact .dj (by rw [disj_turned]; exact h)
  | inn h => rw [turned_at, turned_at]; exact .inn (RE_turn h)
  | mi => exact .mi
  | im => rw [turned_at, turned_at]; exact .im

/-! ### The cube -/
theorem RE_cube {x y z x1 y1 x2 z1 y2 z2 : E} (hxy : RE x y y1 x1) (hxz : RE x z z1 x2) (hyz : RE y z z2 y2) :
    ∃ x3 y3 z3, RE y1 z1 z3 y3 ∧ RE x1 z2 z3 x3 ∧ RE x2 y2 y3 x3 := by
  cases hxy with
  | @hh1 a b o n u v c =>
    cases hxz with
    | @hh1 _ d _ _ w r c1 =>
      cases hyz with
      | hh1 c2 =>
        refine ⟨_, _, _, .hh1 (by omega), ?_, .hh1 (by omega)⟩
        have e : d - o.length + n.length - u.length + v.length = d - u.length + v.length - o.length + n.length := by omega
        rw [e]
        exact .hh1 (by omega)
      | hh2 c2 =>
        refine ⟨_, _, _, .hh2 (by omega), .hh1 (by omega), ?_⟩
        have e : b - o.length + n.length - w.length + r.length = b - w.length + r.length - o.length + n.length := by omega
        rw [e]
        exact .hh1 (by omega)
    | @hh2 _ d _ _ w r c1 =>
      cases hyz with
      | hh1 c2 => omega
      | hh2 c2 =>
        refine ⟨_, _, _, .hh2 (by omega), .hh2 (by omega), ?_⟩
        have e : b - o.length + n.length - w.length + r.length = b - w.length + r.length - o.length + n.length := by omega
        rw [e]
        exact .hh1 (by omega)
    | @hs _ s t =>
      cases hyz with
      | hs =>
        refine ⟨_, _, _, .hs, .hs, ?_⟩
        have := RE.hh1 (a := a) (b := b) (o := swapAll s t o) (n := swapAll s t n) (u := swapAll s t u) (v := swapAll s t v) (by rw [swapAll_len]; exact c)
        rw [swapAll_len, swapAll_len] at this
        exact this
  | @hh2 a b o n u v c =>
    cases hxz with
    | @hh1 _ d _ _ w r c1 =>
      cases hyz with
      | hh1 c2 =>
        refine ⟨_, _, _, .hh1 (by omega), ?_, .hh2 (by omega)⟩
        have e : d - o.length + n.length - u.length + v.length = d - u.length + v.length - o.length + n.length := by omega
        rw [e]
        exact .hh1 (by omega)
      | hh2 c2 => omega
    | @hh2 _ d _ _ w r c1 =>
      cases hyz with
      | hh1 c2 =>
        refine ⟨_, _, _, .hh1 (by omega), .hh2 (by omega), ?_⟩
        have e : a - u.length + v.length - (w.length) + r.length = a - w.length + r.length - u.length + v.length := by omega
        rw [e]
        exact .hh2 (by omega)
      | hh2 c2 =>
        refine ⟨_, _, _, .hh2 (by omega), .hh2 (by omega), ?_⟩
        have e : a - u.length + v.length - (w.length) + r.length = a - w.length + r.length - u.length + v.length := by omega
        rw [e]
        exact .hh2 (by omega)
    | @hs _ s t =>
      cases hyz with
      | hs =>
        refine ⟨_, _, _, .hs, .hs, ?_⟩
        have := RE.hh2 (a := a) (b := b) (o := swapAll s t o) (n := swapAll s t n) (u := swapAll s t u) (v := swapAll s t v) (by rw [swapAll_len]; exact c)
        rw [swapAll_len, swapAll_len] at this
        exact this
  | @hs a s t o n =>
    cases hxz with
    | @hh1 _ d _ _ w r c1 =>
      cases hyz with
      | sh =>
        refine ⟨_, _, _, .sh, ?_, .hs⟩
        have := RE.hh1 (a := a) (b := d) (o := swapAll s t o) (n := swapAll s t n) (u := swapAll s t w) (v := swapAll s t r) (by rw [swapAll_len]; exact c1)
        rw [swapAll_len, swapAll_len] at this
        exact this
    | @hh2 _ d _ _ w r c1 =>
      cases hyz with
      | sh =>
        refine ⟨_, _, _, .sh, ?_, .hs⟩
        have := RE.hh2 (a := a) (b := d) (o := swapAll s t o) (n := swapAll s t n) (u := swapAll s t w) (v := swapAll s t r) (by rw [swapAll_len]; exact c1)
        rw [swapAll_len, swapAll_len] at this
        exact this
    | @hs _ s2 t2 =>
      cases hyz with
      | ss c =>
        refine ⟨_, _, _, .ss c, .hs, ?_⟩
        rw [← swapAll_comm c, ← swapAll_comm c]
        exact .hs
  | @sh b s t u v =>
    cases hxz with
    | @sh d _ _ w r =>
      cases hyz with
      | hh1 c1 =>
        refine ⟨_, _, _, ?_, .sh, .sh⟩
        have := RE.hh1 (a := b) (b := d) (o := swapAll s t u) (n := swapAll s t v) (u := swapAll s t w) (v := swapAll s t r) (by rw [swapAll_len]; exact c1)
        rw [swapAll_len, swapAll_len] at this
        exact this
      | hh2 c1 =>
        refine ⟨_, _, _, ?_, .sh, .sh⟩
        have := RE.hh2 (a := b) (b := d) (o := swapAll s t u) (n := swapAll s t v) (u := swapAll s t w) (v := swapAll s t r) (by rw [swapAll_len]; exact c1)
        rw [swapAll_len, swapAll_len] at this
        exact this
    | @ss _ _ s2 t2 c =>
      cases hyz with
      | hs =>
        refine ⟨_, _, _, .hs, .ss c, ?_⟩
        rw [← swapAll_comm c, ← swapAll_comm c]
        exact .sh
  | @ss s t s2 t2 c =>
    cases hxz with
    | @sh d _ _ w r =>
      cases hyz with
      | sh =>
        refine ⟨_, _, _, .sh, ?_, .ss c⟩
        rw [← swapAll_comm c, ← swapAll_comm c]
        exact .sh
    | @ss _ _ s3 t3 c1 =>
      cases hyz with
      | ss c2 => exact ⟨_, _, _, .ss c2, .ss c1, .ss c⟩

theorem names_R {p q q1 p1 : Step} (h : R p q q1 p1) : (∀ x ∈ namesOf q1, x ∈ namesOf p ∨ x ∈ namesOf q) ∧ ∀ x ∈ namesOf p1, x ∈ namesOf p ∨ x ∈ namesOf q := by
  cases h with
  | dj h => exact ⟨fun x hx => .inr hx, fun x hx => .inl hx⟩
  | inn h => simp [names_at]
  | mi => rw [names_at, names_at]; simp [namesOf]
  | im => rw [names_at, names_at]; simp [namesOf]

/-- the cube, where x has no name in common with y and z -/
theorem cube_dj {x y z z2 y2 : Step} (h1 : disjoint (namesOf x) (namesOf y) = true) (h2 : disjoint (namesOf x) (namesOf z) = true) (h : R y z z2 y2) :
    R x z2 z2 x ∧ R x y2 y2 x := by
  rw [disj_iff] at h1 h2
  have hn := names_R h
  refine ⟨.dj ?_, .dj ?_⟩
  · rw [disj_iff]; intro n hx hz
    cases hn.1 n hz with
    | inl k => exact h1 n hx k
    | inr k => exact h2 n hx k
  · rw [disj_iff]; intro n hx hz
    cases hn.2 n hz with
    | inl k => exact h1 n hx k
    | inr k => exact h2 n hx k
/-- the statement of the cube -/
def Cube (x1 y1 x2 z1 y2 z2 : Step) : Prop := ∃ x3 y3 z3, R y1 z1 z3 y3 ∧ R x1 z2 z3 x3 ∧ R x2 y2 y3 x3

theorem at_inj {f g : Nat} {p q : E} (h : p.at_ f = q.at_ g) : f = g ∧ p = q := by
  cases p <;> cases q <;> simp only [E.at_, Step.hunk.injEq, Step.swap.injEq, reduceCtorEq] at h
  · obtain ⟨rfl, rfl, rfl, rfl⟩ := h; exact ⟨rfl, rfl⟩
  · obtain ⟨rfl, rfl, rfl⟩ := h; exact ⟨rfl, rfl⟩
theorem at_not_move {f g k : Nat} {p : E} (h : p.at_ f = .move g k) : False := by cases p <;> cases h

/-- either disjoint, or one of the three ways with a file in common -/
inductive RN : Step → Step → Step → Step → Prop where
  | inn {f : Nat} {p q q1 p1 : E} : RE p q q1 p1 → RN (p.at_ f) (q.at_ f) (q1.at_ f) (p1.at_ f)
  | mi {f g : Nat} {q : E} : RN (.move f g) (q.at_ f) (q.at_ g) (.move f g)
  | im {f g : Nat} {p : E} : RN (p.at_ f) (.move f g) (.move f g) (p.at_ g)
theorem R_cases {p q q1 p1 : Step} (h : R p q q1 p1) : (disjoint (namesOf p) (namesOf q) = true ∧ q1 = q ∧ p1 = p) ∨ RN p q q1 p1 := by
  cases h with
  | dj h => exact .inl ⟨h, rfl, rfl⟩
  | inn h => exact .inr (.inn h)
  | mi => exact .inr .mi
  | im => exact .inr .im
/-- what a pair that is not disjoint is about: one file (the first name of a move) -/
def chief : Step → Nat
  | .hunk f _ _ _ => f
  | .swap f _ _ => f
  | .add f => f
  | .remove f => f
  | .move f _ => f
theorem chief_at (f : Nat) (e : E) : chief (e.at_ f) = f := by cases e <;> rfl
theorem chief_mem (p : Step) : chief p ∈ namesOf p := by cases p <;> simp [chief, namesOf]
theorem RN_chief {p q q1 p1 : Step} (h : RN p q q1 p1) : chief p = chief q := by
  cases h with
  | inn h => rw [chief_at, chief_at]
  | mi => rw [chief_at]; rfl
  | im => rw [chief_at]; rfl
theorem not_dj_of_chief {p q : Step} (h : chief p = chief q) : disjoint (namesOf p) (namesOf q) = true → False := by
  intro hd
  rw [disj_iff] at hd
  exact hd _ (chief_mem p) (h ▸ chief_mem q)

theorem RN_cube {x y z x1 y1 x2 z1 y2 z2 : Step} (hxy : RN x y y1 x1) (hxz : RN x z z1 x2) (hyz : RN y z z2 y2) : Cube x1 y1 x2 z1 y2 z2 := by
  generalize ex : x = x' at hxz
  generalize ey : y = y' at hyz
  generalize ez : z = z' at hyz
  cases hxy with
  | @inn f p q q1 p1 h =>
    cases hxz with
    | @inn f' p' r r1 p2 h2 =>
      obtain ⟨rfl, rfl⟩ := at_inj ex
      cases hyz with
      | @inn f'' q' r' r2 q2 h3 =>
        obtain ⟨rfl, rfl⟩ := at_inj ey
        obtain ⟨_, rfl⟩ := at_inj ez
        obtain ⟨x3, y3, z3, k1, k2, k3⟩ := RE_cube h h2 h3
        exact ⟨_, _, _, .inn k1, .inn k2, .inn k3⟩
      | mi => exact (at_not_move ey).elim
      | im => exact (at_not_move ez).elim
    | mi => exact (at_not_move ex).elim
    | @im f' g p' =>
      obtain ⟨rfl, rfl⟩ := at_inj ex
      cases hyz with
      | inn h3 => exact (at_not_move ez.symm).elim
      | mi => exact (at_not_move ez.symm).elim
      | @im f'' g'' q' =>
        obtain ⟨rfl, rfl⟩ := at_inj ey
        cases ez
        exact ⟨_, _, _, .im, .im, .inn h⟩
  | @mi f g q =>
    cases hxz with
    | inn h2 => exact (at_not_move ex.symm).elim
    | @mi f' g' r =>
      cases ex
      cases hyz with
      | @inn f'' q' r' r2 q2 h3 =>
        obtain ⟨rfl, rfl⟩ := at_inj ey
        obtain ⟨_, rfl⟩ := at_inj ez
        exact ⟨_, _, _, .inn h3, .mi, .mi⟩
      | mi => exact (at_not_move ey).elim
      | im => exact (at_not_move ez).elim
    | im => exact (at_not_move ex.symm).elim
  | @im f g p =>
    cases hxz with
    | @inn f' p' r r1 p2 h2 =>
      obtain ⟨rfl, rfl⟩ := at_inj ex
      cases hyz with
      | inn h3 => exact (at_not_move ey.symm).elim
      | @mi f'' g'' r' =>
        cases ey
        obtain ⟨_, rfl⟩ := at_inj ez
        exact ⟨_, _, _, .mi, .inn h2, .im⟩
      | im => exact (at_not_move ey.symm).elim
    | mi => exact (at_not_move ex).elim
    | @im f' g' p' =>
      cases hyz with
      | inn h3 => exact (at_not_move ey.symm).elim
      | mi => exact (at_not_move ez.symm).elim
      | im => exact (at_not_move ey.symm).elim

theorem R_cube {x y z x1 y1 x2 z1 y2 z2 : Step} (hxy : R x y y1 x1) (hxz : R x z z1 x2) (hyz : R y z z2 y2) : Cube x1 y1 x2 z1 y2 z2 := by
  cases R_cases hxy with
  | inl a =>
    obtain ⟨d1, rfl, rfl⟩ := a
    cases R_cases hxz with
    | inl b =>
      obtain ⟨d2, rfl, rfl⟩ := b
      have k := cube_dj d1 d2 hyz
      exact ⟨_, _, _, hyz, k.1, k.2⟩
    | inr b =>
      cases R_cases hyz with
      | inl c =>
        obtain ⟨d3, rfl, rfl⟩ := c
        have k := cube_dj (disj_comm d1) d3 hxz
        exact ⟨_, _, _, k.1, hxz, R_sym k.2⟩
      | inr c => exact (not_dj_of_chief ((RN_chief b).trans (RN_chief c).symm) d1).elim
  | inr a =>
    cases R_cases hxz with
    | inl b =>
      obtain ⟨d2, rfl, rfl⟩ := b
      cases R_cases hyz with
      | inl c =>
        obtain ⟨d3, rfl, rfl⟩ := c
        have k := cube_dj (disj_comm d2) (disj_comm d3) hxy
        exact ⟨_, _, _, R_sym k.1, R_sym k.2, hxy⟩
      | inr c => exact (not_dj_of_chief ((RN_chief a).trans (RN_chief c)) d2).elim
    | inr b =>
      cases R_cases hyz with
      | inl c =>
        obtain ⟨d3, rfl, rfl⟩ := c
        exact (not_dj_of_chief ((RN_chief a).symm.trans (RN_chief b)) d3).elim
      | inr c => exact RN_cube a b c
end Rw
end
section
set_option autoImplicit false
namespace Rw
open VapatBase (Step Tokens Tree turned namesOf isInside inFile disjoint swapAll swapToken commutedInside commuted turnedAll)
open Vapatb (behind aheadOf rowsCommuted)

/-! ### A step beside a row, a row beside a row -/
inductive MS : Step → List Step → List Step → Step → Prop where
  | nil {p : Step} : MS p [] [] p
  | cons {p q q1 p1 p2 : Step} {b b1 : List Step} : R p q q1 p1 → MS p1 b b1 p2 → MS p (q :: b) (q1 :: b1) p2
/-- a, b from one tree: b as it is behind a, a as it is behind b -/
inductive MR : List Step → List Step → List Step → List Step → Prop where
  | nil {b : List Step} : MR [] b b []
  | cons {p p1 : Step} {a a1 b b1 b2 : List Step} : MS p b b1 p1 → MR a b1 b2 a1 → MR (p :: a) b b2 (p1 :: a1)
def Mg (a b : List Step) : Prop := ∃ b1 a1, MR a b b1 a1

theorem MR_nil_right : ∀ a : List Step, MR a [] [] a
  | [] => .nil
  | _ :: a => .cons .nil (MR_nil_right a)
theorem MR_sym_aux {p p1 : Step} {b b1 : List Step} (h : MS p b b1 p1) : ∀ {a a1 b2 : List Step}, MR b1 a a1 b2 → MR b (p :: a) (p1 :: a1) b2 := by
  induction h with
  | nil => intro a a1 b2 k; cases k; exact .nil
  | cons r _ ih =>
    intro a a1 b2 k
    cases k with
    | cons k1 k2 => exact .cons (.cons (R_sym r) k1) (ih k2)
theorem MR_sym {a b b1 a1 : List Step} (h : MR a b b1 a1) : MR b a a1 b1 := by
  induction h with
  | nil => exact MR_nil_right _
  | cons k _ ih => exact MR_sym_aux k ih
theorem MR_app {a c b b1 b2 a1 c1 : List Step} (h : MR a b b1 a1) (k : MR c b1 b2 c1) : MR (a ++ c) b b2 (a1 ++ c1) := by
  induction h with
  | nil => exact k
  | cons r _ ih => exact .cons r (ih k)
theorem MR_app_inv : ∀ {a c b b2 d : List Step}, MR (a ++ c) b b2 d → ∃ b1 a1 c1, MR a b b1 a1 ∧ MR c b1 b2 c1 ∧ d = a1 ++ c1
  | [], c, b, b2, d, h => ⟨b, [], d, .nil, h, rfl⟩
  | p :: a, c, b, b2, d, h => by
    cases h with
    | cons r k =>
      obtain ⟨b1, a1, c1, h1, h2, rfl⟩ := MR_app_inv k
      exact ⟨b1, _ :: a1, c1, .cons r h1, h2, rfl⟩
theorem MR_app_right {a b c b1 a1 c1 a2 : List Step} (h : MR a b b1 a1) (k : MR a1 c c1 a2) : MR a (b ++ c) (b1 ++ c1) a2 :=
  MR_sym (MR_app (MR_sym h) (MR_sym k))
theorem MR_app_right_inv {a b c d a2 : List Step} (h : MR a (b ++ c) d a2) : ∃ b1 a1 c1, MR a b b1 a1 ∧ MR a1 c c1 a2 ∧ d = b1 ++ c1 := by
  obtain ⟨a1, b1, c1, h1, h2, e⟩ := MR_app_inv (MR_sym h)
  exact ⟨b1, a1, c1, MR_sym h1, MR_sym h2, e⟩
theorem MS_fun {p : Step} {b b1 b2 : List Step} {p1 p2 : Step} (h : MS p b b1 p1) : MS p b b2 p2 → b1 = b2 ∧ p1 = p2 := by
  induction h generalizing b2 p2 with
  | nil => intro k; cases k; exact ⟨rfl, rfl⟩
  | cons r _ ih =>
    intro k
    cases k with
    | cons r2 k2 =>
      obtain ⟨rfl, rfl⟩ := R_fun r r2
      obtain ⟨rfl, rfl⟩ := ih k2
      exact ⟨rfl, rfl⟩
theorem MR_fun {a b b1 b2 a1 a2 : List Step} (h : MR a b b1 a1) : MR a b b2 a2 → b1 = b2 ∧ a1 = a2 := by
  induction h generalizing b2 a2 with
  | nil => intro k; cases k; exact ⟨rfl, rfl⟩
  | cons r _ ih =>
    intro k
    cases k with
    | cons r2 k2 =>
      obtain ⟨rfl, rfl⟩ := MS_fun r r2
      obtain ⟨rfl, rfl⟩ := ih k2
      exact ⟨rfl, rfl⟩
theorem MR_len {a b b1 a1 : List Step} (h : MR a b b1 a1) : a1.length = a.length := by
  induction h with
  | nil => rfl
  | cons _ _ ih => simp [ih]
theorem MR_len_right {a b b1 a1 : List Step} (h : MR a b b1 a1) : b1.length = b.length := MR_len (MR_sym h)
theorem MR_one {p : Step} {b b1 a1 : List Step} : MR [p] b b1 a1 ↔ ∃ p1, MS p b b1 p1 ∧ a1 = [p1] := by
  constructor
  · intro h
    cases h with
    | cons r k => cases k; exact ⟨_, r, rfl⟩
  · rintro ⟨p1, h, rfl⟩
    exact .cons h .nil
theorem MR_one_one {p q : Step} {b1 a1 : List Step} : MR [p] [q] b1 a1 ↔ ∃ q1 p1, R p q q1 p1 ∧ b1 = [q1] ∧ a1 = [p1] := by
  rw [MR_one]
  constructor
  · rintro ⟨p1, h, rfl⟩
    cases h with
    | cons r k => cases k; exact ⟨_, _, r, rfl, rfl⟩
  · rintro ⟨q1, p1, r, rfl, rfl⟩
    exact ⟨_, .cons r .nil, rfl⟩
theorem turnedAll_cons (p : Step) (a : List Step) : turnedAll (p :: a) = turnedAll a ++ [turned p] := by simp [turnedAll]
theorem turnedAll_append (a b : List Step) : turnedAll (a ++ b) = turnedAll b ++ turnedAll a := by simp [turnedAll]
theorem turnedAll_turnedAll (a : List Step) : turnedAll (turnedAll a) = a := by
  simp only [turnedAll, List.map_reverse, List.reverse_reverse, List.map_map]
  conv => rhs; rw [← List.map_id a]
  apply List.map_congr_left
  intro p _; exact turned_turned p
theorem MS_turn {p p1 : Step} {b b1 : List Step} (h : MS p b b1 p1) : MS (turned p) b1 b (turned p1) := by
  induction h with
  | nil => exact .nil
  | cons r _ ih => exact .cons (R_turn r) ih
theorem MR_turn {a b b1 a1 : List Step} (h : MR a b b1 a1) : MR (turnedAll a) b1 b (turnedAll a1) := by
  induction h with
  | nil => exact .nil
  | cons r _ ih =>
    rw [turnedAll_cons, turnedAll_cons]
    exact MR_app ih (.cons (MS_turn r) .nil)
theorem MR_turn_iff {a b b1 a1 : List Step} : MR (turnedAll a) b1 b (turnedAll a1) ↔ MR a b b1 a1 := by
  refine ⟨fun h => ?_, MR_turn⟩
  have := MR_turn h
  rwa [turnedAll_turnedAll, turnedAll_turnedAll] at this

/-! ### The cube of rows -/
def C3 (x y z : List Step) : Prop := ∀ (x1 y1 x2 z1 y2 z2 : List Step), MR x y y1 x1 → MR x z z1 x2 → MR y z z2 y2 →
  ∃ x3 y3 z3, MR y1 z1 z3 y3 ∧ MR x1 z2 z3 x3 ∧ MR x2 y2 y3 x3
theorem c3_s0 (p q c : Step) : C3 [p] [q] [c] := by
  intro x1 y1 x2 z1 y2 z2 h1 h2 h3
  obtain ⟨q1, p1, r1, rfl, rfl⟩ := MR_one_one.mp h1
  obtain ⟨c1, p2, r2, rfl, rfl⟩ := MR_one_one.mp h2
  obtain ⟨c2, q2, r3, rfl, rfl⟩ := MR_one_one.mp h3
  obtain ⟨x3, y3, z3, k1, k2, k3⟩ := R_cube r1 r2 r3
  exact ⟨[x3], [y3], [z3], MR_one_one.mpr ⟨_, _, k1, rfl, rfl⟩, MR_one_one.mpr ⟨_, _, k2, rfl, rfl⟩, MR_one_one.mpr ⟨_, _, k3, rfl, rfl⟩⟩
theorem c3_nil (x y : List Step) : C3 x y [] := by
  intro x1 y1 x2 z1 y2 z2 h1 h2 h3
  cases MR_sym h2
  cases MR_sym h3
  exact ⟨x1, y1, [], MR_nil_right _, MR_nil_right _, h1⟩
theorem c3_s1 : ∀ (z : List Step) (p q : Step), C3 [p] [q] z
  | [], p, q => c3_nil _ _
  | c :: z, p, q => by
    intro x1 y1 x2 z1 y2 z2 h1 h2 h3
    obtain ⟨c1, pc, zz1, a1, a2, rfl⟩ := MR_app_right_inv (b := [c]) h2
    obtain ⟨c2, qc, zz2, b1, b2, rfl⟩ := MR_app_right_inv (b := [c]) h3
    obtain ⟨x3, y3, z3, k1, k2, k3⟩ := c3_s0 p q c _ _ _ _ _ _ h1 a1 b1
    obtain ⟨_, p1, _, _, rfl⟩ := MR_one_one.mp a1
    obtain ⟨_, q1, _, _, rfl⟩ := MR_one_one.mp b1
    obtain ⟨x4, y4, z4, l1, l2, l3⟩ := c3_s1 z p1 q1 _ _ _ _ _ _ k3 a2 b2
    exact ⟨x4, y4, z3 ++ z4, MR_app_right k1 l1, MR_app_right k2 l2, l3⟩
theorem c3_s2 : ∀ (y z : List Step) (p : Step), C3 [p] y z
  | [], z, p => by
    intro x1 y1 x2 z1 y2 z2 h1 h2 h3
    cases h3
    cases MR_sym h1
    exact ⟨x2, [], z1, .nil, h2, MR_nil_right _⟩
  | q :: y, z, p => by
    intro x1 y1 x2 z1 y2 z2 h1 h2 h3
    obtain ⟨q1, pq, yy1, a1, a2, rfl⟩ := MR_app_right_inv (b := [q]) h1
    obtain ⟨zq, q2, yy2, b1, b2, rfl⟩ := MR_app_inv (a := [q]) h3
    obtain ⟨x3, y3, z3, k1, k2, k3⟩ := c3_s1 z p q _ _ _ _ _ _ a1 h2 b1
    obtain ⟨_, p1, _, _, rfl⟩ := MR_one_one.mp a1
    obtain ⟨x4, y4, z4, l1, l2, l3⟩ := c3_s2 y zq p1 _ _ _ _ _ _ a2 k2 b2
    exact ⟨x4, y3 ++ y4, z4, MR_app k1 l1, l2, MR_app_right k3 l3⟩
theorem cube : ∀ (x y z : List Step), C3 x y z
  | [], y, z => by
    intro x1 y1 x2 z1 y2 z2 h1 h2 h3
    cases h1
    cases h2
    exact ⟨[], y2, z2, h3, .nil, .nil⟩
  | p :: x, y, z => by
    intro x1 y1 x2 z1 y2 z2 h1 h2 h3
    obtain ⟨yp, p1, xx1, a1, a2, rfl⟩ := MR_app_inv (a := [p]) h1
    obtain ⟨zp, p2, xx2, b1, b2, rfl⟩ := MR_app_inv (a := [p]) h2
    obtain ⟨x3, y3, z3, k1, k2, k3⟩ := c3_s2 y z p _ _ _ _ _ _ a1 b1 h3
    obtain ⟨x4, y4, z4, l1, l2, l3⟩ := cube x yp zp _ _ _ _ _ _ a2 b2 k1
    exact ⟨x3 ++ x4, y4, z4, l1, MR_app k2 l2, MR_app k3 l3⟩

/-! ### What the specification calls so -/
theorem comm_iff (p q q1 p1 : Step) : commuted p q = some (q1, p1) ↔ R p q1 q p1 := by
  rw [commuted_iff]
  refine ⟨fun h => ?_, R_turn⟩
  have := R_turn h
  rwa [turned_turned, turned_turned] at this
theorem behind_iff : ∀ (l : List Step) (p : Step) (l1 : List Step) (p2 : Step), behind p l = .ok (l1, p2) ↔ MS p l1 l p2
  | [], p, l1, p2 => by
    unfold behind
    simp only [Except.ok.injEq, Prod.mk.injEq]
    constructor
    · rintro ⟨rfl, rfl⟩; exact .nil
    · intro h; cases h; exact ⟨rfl, rfl⟩
  | q :: l, p, l1, p2 => by
    unfold behind
    cases e : commuted p q with
    | none =>
      simp only [reduceCtorEq, false_iff]
      intro h
      cases h with
      | cons r k =>
        rw [(comm_iff _ _ _ _).mpr r] at e
        cases e
    | some r =>
      obtain ⟨q1, p1⟩ := r
      rw [comm_iff] at e
      simp only
      cases e2 : behind p1 l with
      | error n =>
        simp only [reduceCtorEq, false_iff]
        intro h
        cases h with
        | cons r k =>
          have f := (comm_iff _ _ _ _).mpr r
          rw [(comm_iff _ _ _ _).mpr e] at f
          cases f
          rw [(behind_iff _ _ _ _).mpr k] at e2
          cases e2
      | ok s =>
        obtain ⟨l2, p3⟩ := s
        rw [behind_iff] at e2
        simp only [Except.ok.injEq, Prod.mk.injEq]
        constructor
        · rintro ⟨rfl, rfl⟩; exact .cons e e2
        · intro h
          cases h with
          | cons r k =>
            have f := (comm_iff _ _ _ _).mpr r
            rw [(comm_iff _ _ _ _).mpr e] at f
            cases f
            have g := (behind_iff _ _ _ _).mpr k
            rw [(behind_iff _ _ _ _).mpr e2] at g
            cases g
            exact ⟨rfl, rfl⟩
theorem aheadOf_iff : ∀ (l : List Step) (q q1 : Step) (l1 : List Step), aheadOf l q = .ok (q1, l1) ↔ MR l [q1] [q] l1
  | [], q, q1, l1 => by
    unfold aheadOf
    simp only [Except.ok.injEq, Prod.mk.injEq]
    constructor
    · rintro ⟨rfl, rfl⟩; exact .nil
    · intro h; cases h; exact ⟨rfl, rfl⟩
  | p :: l, q, q1, l1 => by
    unfold aheadOf
    constructor
    · intro h
      split at h
      · cases h
      · next q2 l2 e =>
        rw [aheadOf_iff] at e
        split at h
        · cases h
        · next q3 p1 e2 =>
          rw [comm_iff] at e2
          cases h
          exact .cons (.cons e2 .nil) e
    · intro h
      cases h with
      | cons r k =>
        cases r with
        | cons r1 r2 =>
          cases r2
          rw [(aheadOf_iff _ _ _ _).mpr k]
          simp only
          rw [(comm_iff _ _ _ _).mpr r1]
theorem rowsCommuted_iff : ∀ (m l m1 l1 : List Step), rowsCommuted l m = some (m1, l1) ↔ MR l m1 m l1
  | [], l, m1, l1 => by
    unfold rowsCommuted
    simp only [Option.some.injEq, Prod.mk.injEq]
    constructor
    · rintro ⟨rfl, rfl⟩; exact MR_nil_right _
    · intro h
      have h := MR_sym h
      have e := MR_len h
      have : m1 = [] := List.length_eq_zero_iff.mp (by rw [← e]; rfl)
      subst this
      cases h; exact ⟨rfl, rfl⟩
  | q :: m, l, m1, l1 => by
    unfold rowsCommuted
    constructor
    · intro h
      split at h
      · cases h
      · next q1 l2 e =>
        rw [aheadOf_iff] at e
        cases e2 : rowsCommuted l2 m with
        | none => rw [e2] at h; cases h
        | some r =>
          obtain ⟨m2, l3⟩ := r
          rw [e2] at h
          rw [rowsCommuted_iff] at e2
          cases h
          exact MR_app_right e e2
    · intro h
      cases m1 with
      | nil => cases MR_sym h
      | cons q1 m1 =>
        obtain ⟨b1, a1, c1, k1, k2, e⟩ := MR_app_right_inv (b := [q1]) h
        have hl := MR_len (MR_sym k1)
        match b1, hl with
        | [b], _ =>
          simp only [List.cons_append, List.nil_append, List.cons.injEq] at e
          obtain ⟨rfl, rfl⟩ := e
          rw [(aheadOf_iff _ _ _ _).mpr k1]
          simp only
          rw [(rowsCommuted_iff _ _ _ _).mpr k2]
          rfl
theorem rowsMerged_iff (a b b1 a1 : List Step) : Vapatd.rowsMerged a b = some (b1, a1) ↔ MR a b b1 a1 := by
  unfold Vapatd.rowsMerged
  constructor
  · intro h
    cases e : rowsCommuted (turnedAll a) b with
    | none => rw [e] at h; cases h
    | some r =>
      obtain ⟨m, l⟩ := r
      rw [e] at h
      cases h
      rw [rowsCommuted_iff] at e
      rw [← MR_turn_iff, turnedAll_turnedAll]
      exact e
  · intro h
    rw [(rowsCommuted_iff _ _ _ _).mpr (MR_turn h)]
    simp [turnedAll_turnedAll]
theorem rowsMerged_some {a b : List Step} : (Vapatd.rowsMerged a b).isSome = true ↔ Mg a b := by
  constructor
  · intro h
    cases e : Vapatd.rowsMerged a b with
    | none => rw [e] at h; cases h
    | some r => exact ⟨r.1, r.2, (rowsMerged_iff _ _ _ _).mp e⟩
  · rintro ⟨b1, a1, h⟩
    rw [(rowsMerged_iff _ _ _ _).mpr h]; rfl
end Rw
end
section
set_option autoImplicit false
namespace Rw
open VapatBase (Step Tokens Tree turned turnedAll)
open Vapatb (behind without)
open Vapatd (blockFrom blockOf conflict leftOut1 leftOut2 withoutAll rowsMerged)

theorem behind_ok {p : Step} {l l1 : List Step} {p2 : Step} (h : behind p l = .ok (l1, p2)) : MR [p] l1 l [p2] := MR_one.mpr ⟨_, (behind_iff _ _ _ _).mp h, rfl⟩
theorem ok_behind {p : Step} {l l1 c : List Step} (h : MR [p] l1 l c) : ∃ p2, behind p l = .ok (l1, p2) ∧ c = [p2] := by
  obtain ⟨p2, k, rfl⟩ := MR_one.mp h
  exact ⟨p2, (behind_iff _ _ _ _).mpr k, rfl⟩
theorem blockFrom_ok {x p2 : Step} {l b b' : List Step} (h : behind x b = .ok (b', p2)) : blockFrom (x :: l) b = blockFrom l b' := by
  rw [blockFrom, h]
theorem blockFrom_error {x : Step} {l b : List Step} {n : Nat} (h : behind x b = .error n) : blockFrom (x :: l) b = blockFrom l (x :: b) := by
  rw [blockFrom, h]
theorem blockFrom_append : ∀ (l m b : List Step), blockFrom (l ++ m) b = blockFrom m (blockFrom l b)
  | [], _, _ => rfl
  | x :: l, m, b => by
    show blockFrom (x :: (l ++ m)) b = _
    cases e : behind x b with
    | ok r => obtain ⟨b', p2⟩ := r; rw [blockFrom_ok e, blockFrom_ok e, blockFrom_append l m b']
    | error n => rw [blockFrom_error e, blockFrom_error e, blockFrom_append l m]
theorem blockOf_left {A C : List Step} {i : Nat} (h : i < A.length) : blockOf (A ++ C) i = blockOf A i := by
  unfold blockOf
  rw [List.getElem?_append_left h, List.take_append_of_le_length (by omega)]
theorem blockOf_at (A C : List Step) (x : Step) : blockOf (A ++ x :: C) A.length = blockFrom A.reverse [x] := by
  unfold blockOf
  rw [List.getElem?_append_right (by omega), Nat.sub_self, List.getElem?_cons_zero, List.take_append_of_le_length (by omega), List.take_length]
theorem blockOf_past (A C : List Step) (x c : Step) (D : List Step) : blockOf (A ++ C ++ c :: D) (A.length + C.length) = blockFrom A.reverse (blockFrom C.reverse [c]) := by
  rw [← List.length_append, blockOf_at, List.reverse_append, blockFrom_append]

/-! ### Rows merge where all blocks do -/
theorem merge_block : ∀ (l b Y : List Step), Mg l.reverse Y → Mg (blockFrom l b) Y → Mg (l.reverse ++ b) Y
  | [], b, Y, _, h => h
  | x :: l, b, Y, hA, hb => by
    rw [List.reverse_cons] at hA ⊢
    obtain ⟨Y2, A1, hA⟩ := hA
    obtain ⟨Y1, l1, x1, h1, h2, rfl⟩ := MR_app_inv hA
    rw [List.append_assoc]
    cases e : behind x b with
    | error n =>
      rw [blockFrom_error e] at hb
      exact merge_block l (x :: b) Y ⟨_, _, h1⟩ hb
    | ok r =>
      obtain ⟨b', x'⟩ := r
      rw [blockFrom_ok e] at hb
      obtain ⟨Y3, d, hd⟩ := merge_block l b' Y ⟨_, _, h1⟩ hb
      obtain ⟨Y4, l2, b2, k1, k2, rfl⟩ := MR_app_inv hd
      obtain ⟨rfl, rfl⟩ := MR_fun h1 k1
      obtain ⟨x3, y3, z3, c1, _, _⟩ := cube _ _ _ _ _ _ _ _ _ (behind_ok e) h2 k2
      exact ⟨_, _, MR_app h1 (MR_app h2 c1)⟩
theorem merge_blocks_rev : ∀ (l Y : List Step), (∀ i, i < l.length → Mg (blockOf l.reverse i) Y) → Mg l.reverse Y
  | [], Y, _ => ⟨Y, [], .nil⟩
  | x :: l, Y, h => by
    rw [List.reverse_cons] at h ⊢
    refine merge_block l [x] Y (merge_blocks_rev l Y fun i hi => ?_) ?_
    · have := h i (by simp; omega)
      rwa [blockOf_left (by simpa using hi)] at this
    · have := h l.length (by simp)
      have e := blockOf_at l.reverse [] x
      rw [List.length_reverse, List.reverse_reverse] at e
      rwa [e] at this
theorem merge_blocks {A Y : List Step} (h : ∀ i, i < A.length → Mg (blockOf A i) Y) : Mg A Y := by
  have := merge_blocks_rev A.reverse Y
  rw [List.reverse_reverse, List.length_reverse] at this
  exact this h
theorem Mg_sym {a b : List Step} (h : Mg a b) : Mg b a := by
  obtain ⟨_, _, h⟩ := h
  exact ⟨_, _, MR_sym h⟩
theorem merge_all_blocks {a b : List Step} (h : ∀ i j, i < a.length → j < b.length → Mg (blockOf a i) (blockOf b j)) : Mg a b :=
  merge_blocks fun i hi => Mg_sym (merge_blocks fun j hj => Mg_sym (h i j hi hj))

/-! ### What a step needs: its needed steps' blocks stand at the beginning of its own -/
/-- c is a beginning of D, but for steps brought behind -/
inductive Pre : List Step → List Step → Prop where
  | nil {D : List Step} : Pre [] D
  | cons {p : Step} {c D : List Step} : Pre c D → Pre (p :: c) (p :: D)
  | comm {y y1 : Step} {c c1 D : List Step} : MR [y] c1 c [y1] → Pre c D → Pre c1 (y :: D)
theorem Pre_Mg {c D : List Step} (h : Pre c D) : ∀ {Y : List Step}, Mg D Y → Mg c Y := by
  induction h with
  | nil => intro Y _; exact ⟨_, _, .nil⟩
  | cons _ ih =>
    rintro Y ⟨Y1, D1, h⟩
    cases h with
    | cons r k =>
      obtain ⟨_, _, h⟩ := ih ⟨_, _, k⟩
      exact ⟨_, _, .cons r h⟩
  | @comm y y1 c c1 D m _ ih =>
    rintro Y ⟨Y1, D1, h⟩
    obtain ⟨Y2, y2, d, k1, k2, rfl⟩ := MR_app_inv (a := [y]) h
    obtain ⟨Y3, c3, h3⟩ := ih ⟨_, _, k2⟩
    have t1 := MR_turn m
    have t2 := MR_turn k1
    obtain ⟨x3, y3, z3, e, _, _⟩ := cube _ _ _ _ _ _ _ _ _ t1 t2 h3
    exact ⟨_, _, e⟩
/-- brought ahead over a step: y past D, so past c -/
theorem Pre_past {c D : List Step} (h : Pre c D) : ∀ {y y1 : Step} {D1 : List Step}, MR [y] D1 D [y1] → ∃ c1 y2, MR [y] c1 c [y2] ∧ Pre c1 D1 := by
  induction h with
  | nil => intro y y1 D1 _; exact ⟨[], y, MR_nil_right _, .nil⟩
  | @cons p c D _ ih =>
    intro y y1 D1 h
    cases D1 with
    | nil => cases MR_sym h
    | cons p1 D1 =>
      obtain ⟨p2, y2, D2, k1, k2, e⟩ := MR_app_right_inv (b := [p1]) h
      obtain ⟨q1, y3, _, rfl, rfl⟩ := MR_one_one.mp k1
      simp only [List.cons_append, List.nil_append, List.cons.injEq] at e
      obtain ⟨rfl, rfl⟩ := e
      obtain ⟨c1, y4, m1, m2⟩ := ih k2
      exact ⟨p1 :: c1, y4, MR_app_right (b := [p1]) k1 m1, .cons m2⟩
  | @comm z z1 c c' D m hp ih =>
    intro y y1 D1 h
    cases D1 with
    | nil => cases MR_sym h
    | cons z' D1 =>
      obtain ⟨p2, y2, D2, k1, k2, e⟩ := MR_app_right_inv (b := [z']) h
      obtain ⟨q1, y3, _, rfl, rfl⟩ := MR_one_one.mp k1
      simp only [List.cons_append, List.nil_append, List.cons.injEq] at e
      obtain ⟨rfl, rfl⟩ := e
      obtain ⟨c1, y4, m1, m2⟩ := ih k2
      -- at the vertex behind y and z: y3 turned, z turned, c
      have t1 := MR_turn m1
      have t2 := MR_turn m
      have t3 := MR_turn (MR_sym (MR_turn k1))
      obtain ⟨x3, y5, z3, e1, e2, e3⟩ := cube _ _ _ _ _ _ _ _ _ (MR_sym t3) t1 t2
      have u1 := MR_turn e2
      have u2 := MR_turn e1
      rw [turnedAll_turnedAll] at u1 u2
      obtain ⟨x4, _, ex⟩ := ok_behind u1
      obtain ⟨x5, _, ex5⟩ := ok_behind u2
      rw [ex] at u1
      rw [ex5] at u2
      exact ⟨z3, x4, u1, .comm u2 m2⟩
theorem Pre_blockFrom : ∀ (l c D : List Step), Pre c D → Pre (blockFrom l c) (blockFrom l D)
  | [], _, _, h => h
  | y :: l, c, D, h => by
    cases e : behind y D with
    | ok r =>
      obtain ⟨D1, y1⟩ := r
      obtain ⟨c1, y2, m1, m2⟩ := Pre_past h (behind_ok e)
      obtain ⟨_, e2, _⟩ := ok_behind m1
      rw [blockFrom_ok e, blockFrom_ok e2]
      exact Pre_blockFrom l c1 D1 m2
    | error n =>
      rw [blockFrom_error e]
      cases e2 : behind y c with
      | ok r =>
        obtain ⟨c1, y1⟩ := r
        rw [blockFrom_ok e2]
        exact Pre_blockFrom l c1 (y :: D) (.comm (behind_ok e2) h)
      | error n2 =>
        rw [blockFrom_error e2]
        exact Pre_blockFrom l (y :: c) (y :: D) (.cons h)
/-- a step whose block is merged: so are the blocks of those it needs -/
theorem block_needed {l b Y : List Step} {x : Step} (h : Mg (blockFrom l (x :: b)) Y) : Mg (blockFrom l [x]) Y :=
  Pre_Mg (Pre_blockFrom l [x] (x :: b) (.cons .nil)) h

/-! ### A step taken out -/
/-- x, brought behind C, is x0; x can also be brought behind a block over C: then x0 past what that block was made of, and the block over the moved row is the moved block -/
theorem moved_block : ∀ (l l' d : List Step) (x x0 x2 : Step) (b' : List Step), MR [x] l'.reverse l.reverse [x0] → MR [x] b' (blockFrom l d) [x2] →
    ∃ d' x1, MR [x0] d' d [x1] ∧ blockFrom l' d' = b'
  | [], l', d, x, x0, x2, b', h1, h2 => by
    have e := MR_len_right h1
    cases l' with
    | cons y l' => simp at e
    | nil =>
      cases MR_sym h1
      exact ⟨b', x2, h2, rfl⟩
  | y :: l, l', d, x, x0, x2, b', h1, h2 => by
    have e := MR_len_right h1
    cases l' with
    | nil => simp at e
    | cons y' l' =>
      rw [List.reverse_cons, List.reverse_cons] at h1
      obtain ⟨b1, a1, c1, k1, k2, ee⟩ := MR_app_right_inv h1
      have hlen : b1.length = l.reverse.length := by
        have := MR_len_right k1
        simp only [List.length_append, List.length_reverse, List.length_cons, List.length_nil] at e this ⊢
        omega
      obtain ⟨e1, e2⟩ := List.append_inj ee hlen.symm
      subst e1 e2
      obtain ⟨xD, _, rfl⟩ := ok_behind k1
      cases ey : behind y d with
      | ok r =>
        obtain ⟨d1, y1⟩ := r
        rw [blockFrom_ok ey] at h2
        obtain ⟨d1', x1', m1, m2⟩ := moved_block l l' d1 x xD x2 b' k1 h2
        obtain ⟨x3, y3, z3, f1, f2, f3⟩ := cube _ _ _ _ _ _ _ _ _ (MR_turn k2) (MR_turn m1) (behind_ok ey)
        have u := MR_turn f2
        rw [turnedAll_turnedAll] at u
        obtain ⟨x4, _, ex⟩ := ok_behind u
        obtain ⟨y4, ey4, _⟩ := ok_behind f1
        rw [ex] at u
        exact ⟨z3, x4, u, by rw [blockFrom_ok ey4]; exact m2⟩
      | error n =>
        rw [blockFrom_error ey] at h2
        obtain ⟨e', x1, m1, m2⟩ := moved_block l l' (y :: d) x xD x2 b' k1 h2
        cases e' with
        | nil => cases MR_sym m1
        | cons y'' d' =>
          obtain ⟨p2, w2, D2, g1, g2, eg⟩ := MR_app_right_inv (b := [y'']) m1
          obtain ⟨q1, w3, r1, rfl, rfl⟩ := MR_one_one.mp g1
          simp only [List.cons_append, List.nil_append, List.cons.injEq] at eg
          obtain ⟨rfl, rfl⟩ := eg
          -- y'' is y'
          have hy : MR [turned xD] [y] [y''] [turned w3] := MR_turn g1
          obtain ⟨ea, eb⟩ := MR_fun hy (MR_turn k2)
          simp only [turnedAll, List.map_cons, List.map_nil, List.reverse_cons, List.reverse_nil, List.nil_append, List.cons.injEq, and_true] at ea eb
          have eb2 : w3 = x0 := by rw [← turned_turned w3, eb, turned_turned]
          subst ea eb2
          refine ⟨d', x1, g2, ?_⟩
          cases ey' : behind y'' d' with
          | error n' => rw [blockFrom_error ey']; exact m2
          | ok r =>
            obtain ⟨d1', y3⟩ := r
            have t1 := MR_turn (MR_sym g1)
            have t2 := MR_turn (behind_ok ey')
            obtain ⟨x3, y5, z3, f1, f2, f3⟩ := cube _ _ _ _ _ _ _ _ _ t1 t2 g2
            have u := MR_turn f2
            rw [turnedAll_turnedAll] at u
            obtain ⟨_, ez, _⟩ := ok_behind u
            rw [ey] at ez
            cases ez
/-- a row with a step x, C behind it; blocks over C are good, x's own is not: x can be taken out, and the blocks stay what they were -/
theorem taken_out {P : List Step → Prop} {A : List Step} {x : Step} (hP : ∀ b, P (blockFrom A.reverse (x :: b)) → P (blockFrom A.reverse [x])) (hx : ¬ P (blockFrom A.reverse [x])) :
    ∀ (l : List Step), (∀ i, i < l.length → P (blockOf (A ++ x :: l.reverse) (A.length + 1 + i))) →
      ∃ (l' : List Step) (x0 : Step), MR [x] l'.reverse l.reverse [x0] ∧ ∀ i, i < l.length → blockOf (A ++ l'.reverse) (A.length + i) = blockOf (A ++ x :: l.reverse) (A.length + 1 + i)
  | [], _ => ⟨[], x, MR_nil_right _, fun i hi => absurd hi (Nat.not_lt_zero _)⟩
  | c :: l, h => by
    have hl : ∀ i, i < l.length → blockOf (A ++ x :: (c :: l).reverse) (A.length + 1 + i) = blockOf (A ++ x :: l.reverse) (A.length + 1 + i) := by
      intro i hi
      have e : A ++ x :: (c :: l).reverse = (A ++ x :: l.reverse) ++ [c] := by simp
      rw [e, blockOf_left (by simp; omega)]
    have hlast : blockOf (A ++ x :: (c :: l).reverse) (A.length + 1 + l.length) = blockFrom (x :: A.reverse) (blockFrom l [c]) := by
      have e : A ++ x :: (c :: l).reverse = (A ++ [x]) ++ l.reverse ++ [c] := by simp
      have e2 : A.length + 1 + l.length = (A ++ [x]).length + l.reverse.length := by simp
      rw [e, e2, blockOf_past _ _ x, List.reverse_reverse, List.reverse_append]
      rfl
    obtain ⟨l', x0, k1, k2⟩ := taken_out hP hx l fun i hi => by
      have := h i (by simp; omega)
      rwa [hl i hi] at this
    have hc := h l.length (by simp)
    rw [hlast] at hc
    cases e : behind x (blockFrom l [c]) with
    | error n =>
      rw [blockFrom_error e] at hc
      exact absurd (hP _ hc) hx
    | ok r =>
      obtain ⟨b', x2⟩ := r
      rw [blockFrom_ok e] at hlast
      obtain ⟨d', x1, m1, m2⟩ := moved_block l l' [c] x x0 x2 b' k1 (behind_ok e)
      have hd := MR_len_right m1
      match d', hd with
      | [c'], _ =>
        refine ⟨c' :: l', x1, ?_, ?_⟩
        · rw [List.reverse_cons, List.reverse_cons]
          exact MR_app_right k1 m1
        · intro i hi
          have hlen : l'.length = l.length := by
            have := MR_len_right k1
            simp only [List.length_reverse] at this
            exact this.symm
          by_cases hil : i < l.length
          · rw [hl i hil, ← k2 i hil]
            have e : A ++ (c' :: l').reverse = (A ++ l'.reverse) ++ [c'] := by simp
            rw [e, blockOf_left (by simp; omega)]
          · have hil : i = l.length := by simp at hi; omega
            subst hil
            rw [hlast]
            have e : A ++ (c' :: l').reverse = A ++ l'.reverse ++ [c'] := by simp
            have e2 : A.length + l.length = A.length + l'.reverse.length := by simp [hlen]
            rw [e, e2, blockOf_past _ _ x, List.reverse_reverse, m2]

/-- steps taken out one after the other, each of them gone -/
inductive Outs : List Step → List Nat → List Step → Prop where
  | nil {a : List Step} : Outs a [] a
  | cons {a m m' : List Step} {i : Nat} {l : List Nat} : without a i = .ok m → Outs m l m' → Outs a (i :: l) m'
theorem Outs_all {a m : List Step} {l : List Nat} (h : Outs a l m) : withoutAll a l = m := by
  induction h with
  | nil => rfl
  | cons e _ ih => rw [withoutAll, e]; exact ih
theorem without_at {A l l' : List Step} {x x0 : Step} (h : MR [x] l' l [x0]) : without (A ++ x :: l) A.length = .ok (A ++ l') := by
  unfold without
  rw [List.drop_append_of_le_length (by omega), List.drop_length, List.nil_append]
  obtain ⟨_, e, _⟩ := ok_behind h
  simp only [e, Except.map]
  rw [List.take_append_of_le_length (by omega), List.take_length]
/-- of the first n places those that are not good, from the last one on, taken out of A ++ C, whose C is good already -/
theorem outs_from {P : List Step → Prop} (hP : ∀ (A b : List Step) (x : Step), P (blockFrom A.reverse (x :: b)) → P (blockFrom A.reverse [x])) (bad : Nat → Bool) :
    ∀ (n : Nat) (A C : List Step), A.length = n → (∀ i, i < n → (P (blockOf A i) ↔ bad i = false)) → (∀ i, i < C.length → P (blockOf (A ++ C) (n + i))) →
      ∃ m, Outs (A ++ C) ((List.range n).filter bad).reverse m ∧ ∀ i, i < m.length → P (blockOf m i)
  | 0, A, C, hA, _, hC => by
    have : A = [] := List.length_eq_zero_iff.mp hA
    subst this
    refine ⟨C, .nil, fun i hi => ?_⟩
    have := hC i hi
    rwa [Nat.zero_add] at this
  | n + 1, A, C, hA, hb, hC => by
    obtain ⟨A', x, rfl⟩ : ∃ A' x, A = A' ++ [x] := by
      have hne : A ≠ [] := by intro h; rw [h] at hA; cases hA
      exact ⟨A.dropLast, A.getLast hne, (List.dropLast_concat_getLast hne).symm⟩
    have hA' : A'.length = n := by simpa using hA
    have hb' : ∀ i, i < n → (P (blockOf A' i) ↔ bad i = false) := by
      intro i hi
      have := hb i (by omega)
      rwa [blockOf_left (by omega)] at this
    have hx : P (blockFrom A'.reverse [x]) ↔ bad n = false := by
      have := hb n (by omega)
      rwa [← hA', blockOf_at, hA'] at this
    have eAC : A' ++ [x] ++ C = A' ++ x :: C := by simp
    rw [eAC] at hC ⊢
    rw [List.range_succ, List.filter_append, List.reverse_append]
    cases ebad : bad n with
    | false =>
      have : List.filter bad [n] = [] := by simp [ebad]
      rw [this]
      refine outs_from hP bad n A' (x :: C) hA' hb' fun i hi => ?_
      cases i with
      | zero =>
        rw [Nat.add_zero, ← hA', blockOf_at]
        exact hx.mpr ebad
      | succ i =>
        have := hC i (by simpa using hi)
        rwa [show n + (i + 1) = n + 1 + i from by omega]
    | true =>
      have e1 : List.filter bad [n] = [n] := by simp [ebad]
      rw [e1]
      have hnx : ¬ P (blockFrom A'.reverse [x]) := by rw [hx, ebad]; simp
      obtain ⟨l', x0, k1, k2⟩ := taken_out (fun b => hP A' b x) hnx C.reverse (by
        intro i hi
        rw [List.reverse_reverse, hA']
        exact hC i (by simpa using hi))
      rw [List.reverse_reverse] at k1 k2
      have hw : without (A' ++ x :: C) n = .ok (A' ++ l'.reverse) := by rw [← hA']; exact without_at k1
      obtain ⟨m, o, g⟩ := outs_from hP bad n A' l'.reverse hA' hb' (by
        intro i hi
        have hlen := MR_len_right k1
        have hi' : i < C.length := by omega
        have := k2 i (by simpa using hi')
        rw [← hA', this, hA']
        exact hC i hi')
      exact ⟨m, .cons hw o, g⟩
theorem conflict_false {a b : List Step} {i j : Nat} : conflict a b i j = false ↔ Mg (blockOf a i) (blockOf b j) := by
  unfold conflict
  rw [← rowsMerged_some]
  cases rowsMerged (blockOf a i) (blockOf b j) <;> simp
/-- **What is left of two rows can be merged**; and each step that is taken out can be brought to the end. -/
theorem clean_merges (a b : List Step) : ∃ a0 b0, Outs a (leftOut1 a b).reverse a0 ∧ Outs b (leftOut2 a b).reverse b0 ∧ Mg a0 b0 := by
  let P1 : List Step → Prop := fun k => ∀ j, j < b.length → Mg k (blockOf b j)
  let P2 : List Step → Prop := fun k => (∀ i, i < a.length → Mg (blockOf a i) k) ∧ ∀ Y, P1 Y → Mg Y k
  have h1 : ∀ i, i < a.length → (P1 (blockOf a i) ↔ (List.range b.length).any (conflict a b i) = false) := by
    intro i _
    rw [List.any_eq_false]
    constructor
    · intro h j hj
      rw [Bool.not_eq_true, conflict_false]
      exact h j (List.mem_range.mp hj)
    · intro h j hj
      have := h j (List.mem_range.mpr hj)
      rwa [Bool.not_eq_true, conflict_false] at this
  have h2 : ∀ j, j < b.length → (P2 (blockOf b j) ↔ ((List.range a.length).any fun i => conflict a b i j) = false) := by
    intro j hj
    rw [List.any_eq_false]
    constructor
    · intro h i hi
      rw [Bool.not_eq_true, conflict_false]
      exact h.1 i (List.mem_range.mp hi)
    · intro h
      refine ⟨fun i hi => ?_, fun Y hY => hY j hj⟩
      have := h i (List.mem_range.mpr hi)
      rwa [Bool.not_eq_true, conflict_false] at this
  obtain ⟨a0, o1, g1⟩ := outs_from (P := P1) (fun A k x h j hj => block_needed (h j hj)) _ a.length a [] rfl h1 (fun i hi => absurd hi (Nat.not_lt_zero _))
  obtain ⟨b0, o2, g2⟩ := outs_from (P := P2) (fun A k x h => ⟨fun i hi => Mg_sym (block_needed (Mg_sym (h.1 i hi))), fun Y hY => Mg_sym (block_needed (Mg_sym (h.2 Y hY)))⟩) _ b.length b [] rfl h2 (fun i hi => absurd hi (Nat.not_lt_zero _))
  rw [List.append_nil] at o1 o2
  exact ⟨a0, b0, o1, o2, merge_all_blocks fun i j hi hj => (g2 j hj).2 _ (g1 i hi)⟩
end Rw
end
section
set_option autoImplicit false
namespace Rw
open VapatBase (Step Tokens Tree turned turnedAll namesOf disjoint swapAll swapToken fileIn putFile dropFile spliced applied appliedAll)
open Vapatb (behind without)
open Vapatd (withoutAll rowsMerged)

/-! ### Trees -/
/-- names rising -/
def Rise (t : Tree) : Prop := t.Pairwise fun x y => x.1 < y.1
theorem fileIn_nil (f : Nat) : fileIn [] f = none := rfl
theorem fileIn_cons (x : Nat × Tokens) (t : Tree) (f : Nat) : fileIn (x :: t) f = if f = x.1 then some x.2 else fileIn t f := by
  unfold fileIn
  rw [List.find?_cons]
  by_cases h : f = x.1
  · subst h; simp
  · rw [if_neg h]
    have : (x.1 == f) = false := by simp; omega
    rw [this]
theorem fileIn_put (f : Nat) (c : Tokens) : ∀ (t : Tree) (g : Nat), fileIn (putFile f c t) g = if g = f then some c else fileIn t g
  | [], g => by rw [putFile, fileIn_cons, fileIn_nil]
  | x :: t, g => by
    unfold putFile
    split
    · rw [fileIn_cons]
    · split
      · next h => subst h; rw [fileIn_cons, fileIn_cons]; split <;> rfl
      · next h =>
        rw [fileIn_cons, fileIn_put f c t g, fileIn_cons]
        split
        · next e => subst e; rw [if_neg (fun k => h k.symm)]
        · rfl
theorem fileIn_drop (f : Nat) : ∀ (t : Tree) (g : Nat), fileIn (dropFile f t) g = if g = f then none else fileIn t g
  | [], g => by simp [dropFile, fileIn_nil]
  | x :: t, g => by
    have ih := fileIn_drop f t g
    unfold dropFile at ih ⊢
    rw [List.filter_cons]
    by_cases h : x.1 = f
    · have : (x.1 != f) = false := by simp [h]
      rw [this, if_neg (by simp), ih, fileIn_cons]
      split
      · rfl
      · rw [if_neg (by omega)]
    · have : (x.1 != f) = true := by simp [h]
      rw [this, if_pos rfl, fileIn_cons, ih, fileIn_cons]
      split
      · next e => rw [if_neg (by omega)]
      · rfl
theorem rise_tail {x : Nat × Tokens} {t : Tree} (h : Rise (x :: t)) : Rise t := (List.pairwise_cons.mp h).2
theorem rise_head {x : Nat × Tokens} {t : Tree} (h : Rise (x :: t)) : ∀ y ∈ t, x.1 < y.1 := (List.pairwise_cons.mp h).1
theorem mem_put (f : Nat) (c : Tokens) : ∀ (t : Tree) (y : Nat × Tokens), y ∈ putFile f c t → y = (f, c) ∨ y ∈ t
  | [], y, h => by simp [putFile] at h; exact .inl h
  | x :: t, y, h => by
    unfold putFile at h
    split at h
    · rcases List.mem_cons.mp h with h | h
      · exact .inl h
      · exact .inr h
    · split at h
      · rcases List.mem_cons.mp h with h | h
        · exact .inl h
        · exact .inr (List.mem_cons_of_mem _ h)
      · rcases List.mem_cons.mp h with h | h
        · exact .inr (h ▸ List.mem_cons_self)
        · rcases mem_put f c t y h with h | h
          · exact .inl h
          · exact .inr (List.mem_cons_of_mem _ h)
theorem rise_put (f : Nat) (c : Tokens) : ∀ (t : Tree), Rise t → Rise (putFile f c t)
  | [], _ => by simp [putFile, Rise]
  | x :: t, h => by
    unfold putFile
    split
    · next hf =>
      refine List.pairwise_cons.mpr ⟨fun y hy => ?_, h⟩
      rcases List.mem_cons.mp hy with rfl | hy
      · exact hf
      · exact Nat.lt_trans hf (rise_head h y hy)
    · split
      · next hf =>
        refine List.pairwise_cons.mpr ⟨fun y hy => ?_, rise_tail h⟩
        have := rise_head h y hy
        simp only; omega
      · refine List.pairwise_cons.mpr ⟨fun y hy => ?_, rise_put f c t (rise_tail h)⟩
        rcases mem_put f c t y hy with rfl | hy
        · simp only; omega
        · exact rise_head h y hy
theorem rise_drop (f : Nat) {t : Tree} (h : Rise t) : Rise (dropFile f t) := List.Pairwise.filter _ h
theorem fileIn_none_of_lt {t : Tree} {f : Nat} (h : ∀ y ∈ t, f < y.1) : fileIn t f = none := by
  induction t with
  | nil => rfl
  | cons x t ih =>
    rw [fileIn_cons, if_neg (by have := h x List.mem_cons_self; omega)]
    exact ih fun y hy => h y (List.mem_cons_of_mem _ hy)
theorem tree_ext : ∀ {t u : Tree}, Rise t → Rise u → (∀ f, fileIn t f = fileIn u f) → t = u
  | [], [], _, _, _ => rfl
  | [], y :: u, _, _, h => by
    have := h y.1
    rw [fileIn_nil, fileIn_cons, if_pos rfl] at this
    cases this
  | x :: t, [], _, _, h => by
    have := h x.1
    rw [fileIn_nil, fileIn_cons, if_pos rfl] at this
    cases this
  | x :: t, y :: u, h1, h2, h => by
    have hx := h x.1
    have hy := h y.1
    rw [fileIn_cons, if_pos rfl, fileIn_cons] at hx
    rw [fileIn_cons, fileIn_cons, if_pos rfl] at hy
    have e : x.1 = y.1 := by
      apply Classical.byContradiction
      intro hne
      rw [if_neg hne] at hx
      rw [if_neg (by omega)] at hy
      rcases Nat.lt_or_gt_of_ne hne with hl | hl
      · rw [fileIn_none_of_lt fun z hz => Nat.lt_trans hl (rise_head h2 z hz)] at hx
        cases hx
      · rw [fileIn_none_of_lt fun z hz => Nat.lt_trans hl (rise_head h1 z hz)] at hy
        cases hy
    rw [if_pos e] at hx
    have ex : x = y := Prod.ext e (Option.some.inj hx)
    subst ex
    have : t = u := tree_ext (rise_tail h1) (rise_tail h2) fun f => by
      by_cases hf : f = x.1
      · subst hf
        rw [fileIn_none_of_lt (rise_head h1), fileIn_none_of_lt (rise_head h2)]
      · have := h f
        rwa [fileIn_cons, if_neg hf, fileIn_cons, if_neg hf] at this
    rw [this]

/-! ### Edits of a file -/
theorem spliced_iff (c : Tokens) (a : Nat) (o n d : Tokens) : spliced c a o n = some d ↔ ∃ A B, c = A ++ (o ++ B) ∧ A.length = a ∧ d = A ++ (n ++ B) := by
  unfold spliced
  constructor
  · intro h
    split at h
    · next hc =>
      refine ⟨c.take a, c.drop (a + o.length), ?_, by rw [List.length_take]; omega, (Option.some.inj h).symm⟩
      have e : (c.drop a).drop o.length = c.drop (a + o.length) := by rw [List.drop_drop]
      rw [← e]
      conv => lhs; rw [← List.take_append_drop a c, ← List.take_append_drop o.length (c.drop a), hc.2]
    · cases h
  · rintro ⟨A, B, rfl, rfl, rfl⟩
    have e1 : (A ++ (o ++ B)).drop A.length = o ++ B := by simp
    have e2 : (A ++ (o ++ B)).take A.length = A := by simp
    have e3 : (A ++ (o ++ B)).drop (A.length + o.length) = B := by rw [← List.drop_drop, e1]; simp
    rw [if_pos ⟨by simp, by rw [e1]; simp⟩, e2, e3]
def E.run : E → Tokens → Option Tokens
  | .h a o n, c => spliced c a o n
  | .s x y, c => some (swapAll x y c)
theorem applied_at (t : Tree) (f : Nat) (e : E) : applied t (e.at_ f) = (fileIn t f).bind fun c => (e.run c).map fun d => putFile f d t := by
  cases e with
  | h a o n => rfl
  | s x y =>
    show (fileIn t f).map _ = _
    cases fileIn t f <;> rfl
theorem applied_at_iff (t u : Tree) (f : Nat) (e : E) : applied t (e.at_ f) = some u ↔ ∃ c d, fileIn t f = some c ∧ e.run c = some d ∧ u = putFile f d t := by
  rw [applied_at]
  constructor
  · intro h
    cases h1 : fileIn t f with
    | none => rw [h1] at h; cases h
    | some c =>
      rw [h1] at h
      simp only [Option.bind_some] at h
      cases h2 : e.run c with
      | none => rw [h2] at h; cases h
      | some d => rw [h2] at h; cases h; exact ⟨c, d, rfl, h2, rfl⟩
  · rintro ⟨c, d, h1, h2, rfl⟩
    rw [h1, Option.bind_some, h2]; rfl
theorem run_turned {e : E} {c d : Tokens} (h : e.run c = some d) : e.turned.run d = some c := by
  cases e with
  | h a o n =>
    obtain ⟨A, B, rfl, h2, rfl⟩ := (spliced_iff _ _ _ _ _).mp h
    exact (spliced_iff _ _ _ _ _).mpr ⟨A, B, rfl, h2, rfl⟩
  | s x y => cases h; show some _ = some _; rw [swapAll_self]
theorem swapAll_append (x y : Nat) (a b : Tokens) : swapAll x y (a ++ b) = swapAll x y a ++ swapAll x y b := by simp [swapAll]
theorem run_h1 {a b : Nat} {o n u v c d e : Tokens} (lt : a + o.length < b) (h1 : spliced c a o n = some d) (h2 : spliced c b u v = some e) :
    ∃ k, spliced d (b - o.length + n.length) u v = some k ∧ spliced e a o n = some k := by
  obtain ⟨A, B, rfl, la, rfl⟩ := (spliced_iff _ _ _ _ _).mp h1
  obtain ⟨A', B', e1, lb, rfl⟩ := (spliced_iff _ _ _ _ _).mp h2
  rw [← List.append_assoc] at e1
  have : ∃ M, A' = (A ++ o) ++ M ∧ B = M ++ (u ++ B') := by
    rcases List.append_eq_append_iff.mp e1 with ⟨M, h1, h2⟩ | ⟨M, h1, h2⟩
    · exact ⟨M, h1, h2⟩
    · exfalso
      have := congrArg List.length h1
      simp at this
      omega
  obtain ⟨M, rfl, rfl⟩ := this
  simp only [List.length_append] at lb
  refine ⟨A ++ (n ++ (M ++ (v ++ B'))), ?_, ?_⟩
  · exact (spliced_iff _ _ _ _ _).mpr ⟨A ++ (n ++ M), B', by simp, by simp; omega, by simp⟩
  · exact (spliced_iff _ _ _ _ _).mpr ⟨A, M ++ (v ++ B'), by simp, la, rfl⟩
theorem run_hs {a x y : Nat} {o n c d : Tokens} (h : spliced c a o n = some d) : spliced (swapAll x y c) a (swapAll x y o) (swapAll x y n) = some (swapAll x y d) := by
  obtain ⟨A, B, rfl, la, rfl⟩ := (spliced_iff _ _ _ _ _).mp h
  refine (spliced_iff _ _ _ _ _).mpr ⟨swapAll x y A, swapAll x y B, ?_, by rw [swapAll_len]; exact la, ?_⟩ <;> rw [swapAll_append, swapAll_append]
theorem run_RE {p q q1 p1 : E} {c d e : Tokens} (h : RE p q q1 p1) (h1 : p.run c = some d) (h2 : q.run c = some e) : ∃ k, q1.run d = some k ∧ p1.run e = some k := by
  cases h with
  | hh1 lt => exact run_h1 lt h1 h2
  | hh2 lt =>
    obtain ⟨k, k1, k2⟩ := run_h1 lt h2 h1
    exact ⟨k, k2, k1⟩
  | hs => cases h2; exact ⟨_, rfl, run_hs h1⟩
  | sh => cases h1; exact ⟨_, run_hs h2, rfl⟩
  | ss dj => cases h1; cases h2; exact ⟨_, rfl, congrArg some (swapAll_comm dj _)⟩

/-! ### A step applied -/
theorem applied_add_iff (t u : Tree) (f : Nat) : applied t (.add f) = some u ↔ fileIn t f = none ∧ u = putFile f [] t := by
  simp only [applied]
  cases h : fileIn t f <;> simp [eq_comm]
theorem applied_remove_iff (t u : Tree) (f : Nat) : applied t (.remove f) = some u ↔ fileIn t f = some [] ∧ u = dropFile f t := by
  simp only [applied]
  by_cases h : fileIn t f = some []
  · rw [if_pos h]; simp [h, eq_comm]
  · rw [if_neg h]; simp [h]
theorem applied_move_iff (t u : Tree) (f g : Nat) : applied t (.move f g) = some u ↔ ∃ c, fileIn t f = some c ∧ fileIn t g = none ∧ u = putFile g c (dropFile f t) := by
  simp only [applied]
  cases h : fileIn t f with
  | none => simp
  | some c => cases h2 : fileIn t g <;> simp [eq_comm]
theorem applied_rise {t u : Tree} {p : Step} (hr : Rise t) (h : applied t p = some u) : Rise u := by
  cases p with
  | hunk f a o n => obtain ⟨c, d, _, _, rfl⟩ := (applied_at_iff t u f (.h a o n)).mp h; exact rise_put _ _ _ hr
  | swap f x y => obtain ⟨c, d, _, _, rfl⟩ := (applied_at_iff t u f (.s x y)).mp h; exact rise_put _ _ _ hr
  | add f => obtain ⟨_, rfl⟩ := (applied_add_iff _ _ _).mp h; exact rise_put _ _ _ hr
  | remove f => obtain ⟨_, rfl⟩ := (applied_remove_iff _ _ _).mp h; exact rise_drop _ hr
  | move f g => obtain ⟨c, _, _, rfl⟩ := (applied_move_iff _ _ _ _).mp h; exact rise_put _ _ _ (rise_drop _ hr)
/-- off its names a step changes nothing; on them what it does depends on them alone -/
theorem applied_frame {t u : Tree} {p : Step} (h : applied t p = some u) : (∀ g, g ∉ namesOf p → fileIn u g = fileIn t g) ∧
    ∀ t', (∀ g, g ∈ namesOf p → fileIn t' g = fileIn t g) → ∃ u', applied t' p = some u' ∧ ∀ g, g ∈ namesOf p → fileIn u' g = fileIn u g := by
  have hat : ∀ (f : Nat) (e : E), applied t (e.at_ f) = some u → (∀ g, g ∉ [f] → fileIn u g = fileIn t g) ∧
      ∀ t', (∀ g, g ∈ [f] → fileIn t' g = fileIn t g) → ∃ u', applied t' (e.at_ f) = some u' ∧ ∀ g, g ∈ [f] → fileIn u' g = fileIn u g := by
    intro f e h
    obtain ⟨c, d, h1, h2, rfl⟩ := (applied_at_iff _ _ _ _).mp h
    refine ⟨fun g hg => by rw [fileIn_put, if_neg (by simpa using hg)], fun t' ht => ?_⟩
    refine ⟨_, (applied_at_iff _ _ _ _).mpr ⟨c, d, (ht f (by simp)).trans h1, h2, rfl⟩, fun g hg => ?_⟩
    have : g = f := by simpa using hg
    subst this
    rw [fileIn_put, fileIn_put, if_pos rfl, if_pos rfl]
  cases p with
  | hunk f a o n => exact hat f (.h a o n) h
  | swap f x y => exact hat f (.s x y) h
  | add f =>
    obtain ⟨h1, rfl⟩ := (applied_add_iff _ _ _).mp h
    refine ⟨fun g hg => by rw [fileIn_put, if_neg (by simpa [namesOf] using hg)], fun t' ht => ?_⟩
    refine ⟨_, (applied_add_iff _ _ _).mpr ⟨(ht f (by simp [namesOf])).trans h1, rfl⟩, fun g hg => ?_⟩
    have : g = f := by simpa [namesOf] using hg
    subst this
    rw [fileIn_put, fileIn_put, if_pos rfl, if_pos rfl]
  | remove f =>
    obtain ⟨h1, rfl⟩ := (applied_remove_iff _ _ _).mp h
    refine ⟨fun g hg => by rw [fileIn_drop, if_neg (by simpa [namesOf] using hg)], fun t' ht => ?_⟩
    refine ⟨_, (applied_remove_iff _ _ _).mpr ⟨(ht f (by simp [namesOf])).trans h1, rfl⟩, fun g hg => ?_⟩
    have : g = f := by simpa [namesOf] using hg
    subst this
    rw [fileIn_drop, fileIn_drop, if_pos rfl, if_pos rfl]
  | move f k =>
    obtain ⟨c, h1, h2, rfl⟩ := (applied_move_iff _ _ _ _).mp h
    refine ⟨fun g hg => ?_, fun t' ht => ?_⟩
    · have hg : ¬ g = f ∧ ¬ g = k := by simpa [namesOf] using hg
      rw [fileIn_put, if_neg hg.2, fileIn_drop, if_neg hg.1]
    · refine ⟨_, (applied_move_iff _ _ _ _).mpr ⟨c, (ht f (by simp [namesOf])).trans h1, (ht k (by simp [namesOf])).trans h2, rfl⟩, fun g hg => ?_⟩
      have hg : g = f ∨ g = k := by simpa [namesOf] using hg
      rw [fileIn_put, fileIn_put, fileIn_drop, fileIn_drop]
      split
      · rfl
      · next hk =>
        have : g = f := hg.resolve_right hk
        rw [if_pos this, if_pos this]
theorem applied_turned {t u : Tree} {p : Step} (hr : Rise t) (h : applied t p = some u) : applied u (turned p) = some t := by
  have hat : ∀ (f : Nat) (e : E), applied t (e.at_ f) = some u → applied u (e.turned.at_ f) = some t := by
    intro f e h
    have hu := applied_rise hr h
    obtain ⟨c, d, h1, h2, rfl⟩ := (applied_at_iff _ _ _ _).mp h
    refine (applied_at_iff _ _ _ _).mpr ⟨d, c, by rw [fileIn_put, if_pos rfl], run_turned h2, ?_⟩
    refine tree_ext hr (rise_put _ _ _ hu) fun g => ?_
    rw [fileIn_put, fileIn_put]
    split
    · next e => rw [e, h1]
    · rfl
  have hu := applied_rise hr h
  cases p with
  | hunk f a o n => exact hat f (.h a o n) h
  | swap f x y => exact hat f (.s x y) h
  | add f =>
    obtain ⟨h1, rfl⟩ := (applied_add_iff _ _ _).mp h
    refine (applied_remove_iff _ _ _).mpr ⟨by rw [fileIn_put, if_pos rfl], tree_ext hr (rise_drop _ hu) fun g => ?_⟩
    rw [fileIn_drop, fileIn_put]
    split
    · next e => rw [e, h1]
    · rfl
  | remove f =>
    obtain ⟨h1, rfl⟩ := (applied_remove_iff _ _ _).mp h
    refine (applied_add_iff _ _ _).mpr ⟨by rw [fileIn_drop, if_pos rfl], tree_ext hr (rise_put _ _ _ hu) fun g => ?_⟩
    rw [fileIn_put, fileIn_drop]
    split
    · next e => rw [e, h1]
    · rfl
  | move f k =>
    obtain ⟨c, h1, h2, rfl⟩ := (applied_move_iff _ _ _ _).mp h
    have hne : ¬ f = k := by intro e; rw [e, h2] at h1; cases h1
    refine (applied_move_iff _ _ _ _).mpr ⟨c, by rw [fileIn_put, if_pos rfl], by rw [fileIn_put, if_neg hne, fileIn_drop, if_pos rfl], ?_⟩
    refine tree_ext hr (rise_put _ _ _ (rise_drop _ hu)) fun g => ?_
    rw [fileIn_put, fileIn_drop, fileIn_put, fileIn_drop]
    split
    · next e => rw [e, h1]
    · next hf =>
      split
      · next e => rw [e, h2]
      · rfl
/-- **Merging is right**: both ways round come to the same tree -/
theorem R_diamond {t u v : Tree} {p q q1 p1 : Step} (h : R p q q1 p1) (hr : Rise t) (h1 : applied t p = some u) (h2 : applied t q = some v) :
    ∃ w, applied u q1 = some w ∧ applied v p1 = some w := by
  have hu := applied_rise hr h1
  have hv := applied_rise hr h2
  cases h with
  | dj dj =>
    rw [disj_iff] at dj
    have f1 := applied_frame h1
    have f2 := applied_frame h2
    obtain ⟨w, k1, g1⟩ := f2.2 u fun g hg => f1.1 g fun hp => dj g hp hg
    obtain ⟨w', k2, g2⟩ := f1.2 v fun g hg => f2.1 g (dj g hg)
    have e : w = w' := by
      refine tree_ext (applied_rise hu k1) (applied_rise hv k2) fun g => ?_
      by_cases hp : g ∈ namesOf p
      · rw [g2 g hp, (applied_frame k1).1 g (dj g hp)]
      · by_cases hq : g ∈ namesOf q
        · rw [g1 g hq, (applied_frame k2).1 g hp]
        · rw [(applied_frame k1).1 g hq, (applied_frame k2).1 g hp, f1.1 g hp, f2.1 g hq]
    subst e
    exact ⟨w, k1, k2⟩
  | inn r =>
    obtain ⟨c, d, a1, a2, rfl⟩ := (applied_at_iff _ _ _ _).mp h1
    obtain ⟨c', e, b1, b2, rfl⟩ := (applied_at_iff _ _ _ _).mp h2
    rw [a1] at b1
    cases b1
    obtain ⟨k, r1, r2⟩ := run_RE r a2 b2
    refine ⟨_, (applied_at_iff _ _ _ _).mpr ⟨d, k, by rw [fileIn_put, if_pos rfl], r1, rfl⟩, (applied_at_iff _ _ _ _).mpr ⟨e, k, by rw [fileIn_put, if_pos rfl], r2, ?_⟩⟩
    refine tree_ext (rise_put _ _ _ hu) (rise_put _ _ _ hv) fun g => ?_
    rw [fileIn_put, fileIn_put, fileIn_put, fileIn_put]
    split <;> rfl
  | @mi f g q =>
    obtain ⟨c, a1, a2, rfl⟩ := (applied_move_iff _ _ _ _).mp h1
    obtain ⟨c', d, b1, b2, rfl⟩ := (applied_at_iff _ _ _ _).mp h2
    rw [a1] at b1
    cases b1
    have hne : ¬ g = f := by intro e; rw [e, a1] at a2; cases a2
    refine ⟨_, (applied_at_iff _ _ _ _).mpr ⟨c, d, by rw [fileIn_put, if_pos rfl], b2, rfl⟩, (applied_move_iff _ _ _ _).mpr ⟨d, by rw [fileIn_put, if_pos rfl], by rw [fileIn_put, if_neg hne, a2], ?_⟩⟩
    refine tree_ext (rise_put _ _ _ hu) (rise_put _ _ _ (rise_drop _ hv)) fun k => ?_
    rw [fileIn_put, fileIn_put, fileIn_drop, fileIn_put, fileIn_drop, fileIn_put]
    split
    · rfl
    · split
      · rfl
      · rfl
  | @im f g q =>
    obtain ⟨c, a1, a2, rfl⟩ := (applied_move_iff _ _ _ _).mp h2
    obtain ⟨c', d, b1, b2, rfl⟩ := (applied_at_iff _ _ _ _).mp h1
    rw [a1] at b1
    cases b1
    have hne : ¬ g = f := by intro e; rw [e, a1] at a2; cases a2
    refine ⟨_, (applied_move_iff _ _ _ _).mpr ⟨d, by rw [fileIn_put, if_pos rfl], by rw [fileIn_put, if_neg hne, a2], rfl⟩, (applied_at_iff _ _ _ _).mpr ⟨c, d, by rw [fileIn_put, if_pos rfl], b2, ?_⟩⟩
    refine tree_ext (rise_put _ _ _ (rise_drop _ hu)) (rise_put _ _ _ hv) fun k => ?_
    rw [fileIn_put, fileIn_drop, fileIn_put, fileIn_put, fileIn_put, fileIn_drop]
    split
    · rfl
    · split
      · rfl
      · rfl

/-! ### Rows applied -/
theorem all_cons (t : Tree) (p : Step) (l : List Step) (w : Tree) : appliedAll t (p :: l) = some w ↔ ∃ u, applied t p = some u ∧ appliedAll u l = some w := by
  rw [appliedAll]
  cases h : applied t p <;> simp
theorem all_append : ∀ (l : List Step) (t : Tree) (m : List Step) (w : Tree), appliedAll t (l ++ m) = some w ↔ ∃ u, appliedAll t l = some u ∧ appliedAll u m = some w
  | [], t, m, w => by simp [appliedAll]
  | p :: l, t, m, w => by
    rw [List.cons_append, all_cons]
    constructor
    · rintro ⟨u, h1, h2⟩
      obtain ⟨v, h3, h4⟩ := (all_append l u m w).mp h2
      exact ⟨v, (all_cons _ _ _ _).mpr ⟨u, h1, h3⟩, h4⟩
    · rintro ⟨v, h1, h2⟩
      obtain ⟨u, h3, h4⟩ := (all_cons _ _ _ _).mp h1
      exact ⟨u, h3, (all_append l u m w).mpr ⟨v, h4, h2⟩⟩
theorem all_rise : ∀ (l : List Step) {t u : Tree}, Rise t → appliedAll t l = some u → Rise u
  | [], t, u, hr, h => by cases h; exact hr
  | p :: l, t, u, hr, h => by
    obtain ⟨v, h1, h2⟩ := (all_cons _ _ _ _).mp h
    exact all_rise l (applied_rise hr h1) h2
theorem MS_diamond {p p1 : Step} {b b1 : List Step} (h : MS p b b1 p1) : ∀ {t u v : Tree}, Rise t → applied t p = some u → appliedAll t b = some v →
    ∃ w, appliedAll u b1 = some w ∧ applied v p1 = some w := by
  induction h with
  | nil => intro t u v _ h1 h2; cases h2; exact ⟨u, rfl, h1⟩
  | cons r _ ih =>
    intro t u v hr h1 h2
    obtain ⟨x, k1, k2⟩ := (all_cons _ _ _ _).mp h2
    obtain ⟨y, d1, d2⟩ := R_diamond r hr h1 k1
    obtain ⟨w, e1, e2⟩ := ih (applied_rise hr k1) d2 k2
    exact ⟨w, (all_cons _ _ _ _).mpr ⟨y, d1, e1⟩, e2⟩
theorem MR_diamond {a b b1 a1 : List Step} (h : MR a b b1 a1) : ∀ {t u v : Tree}, Rise t → appliedAll t a = some u → appliedAll t b = some v →
    ∃ w, appliedAll u b1 = some w ∧ appliedAll v a1 = some w := by
  induction h with
  | nil => intro t u v _ h1 h2; cases h1; exact ⟨v, h2, rfl⟩
  | cons r _ ih =>
    intro t u v hr h1 h2
    obtain ⟨x, k1, k2⟩ := (all_cons _ _ _ _).mp h1
    obtain ⟨y, d1, d2⟩ := MS_diamond r hr k1 h2
    obtain ⟨w, e1, e2⟩ := ih (applied_rise hr k1) k2 d1
    exact ⟨w, e1, (all_cons _ _ _ _).mpr ⟨y, d2, e2⟩⟩
/-- a step brought behind a row: the row as it is then still fits -/
theorem behind_applies {t w : Tree} {p p2 : Step} {l l1 : List Step} (hr : Rise t) (h : MR [p] l1 l [p2]) (ha : appliedAll t (p :: l) = some w) : ∃ u, appliedAll t l1 = some u := by
  obtain ⟨u, h1, h2⟩ := (all_cons _ _ _ _).mp ha
  have k := applied_turned hr h1
  obtain ⟨x, e1, _⟩ := MR_diamond (MR_turn h) (applied_rise hr h1) ((all_cons _ _ _ _).mpr ⟨t, k, rfl⟩) h2
  exact ⟨x, e1⟩
theorem without_applies {t w : Tree} {row m : List Step} {i : Nat} (hr : Rise t) (h : without row i = .ok m) (ha : appliedAll t row = some w) : ∃ u, appliedAll t m = some u := by
  unfold without at h
  split at h
  · cases h; exact ⟨_, ha⟩
  · next p l e =>
    cases eb : behind p l with
    | error n => rw [eb] at h; cases h
    | ok r =>
      rw [eb] at h
      cases h
      have hrow : row = row.take i ++ (p :: l) := by rw [← e]; exact (List.take_append_drop i row).symm
      rw [hrow] at ha
      obtain ⟨x, h1, h2⟩ := (all_append _ _ _ _).mp ha
      obtain ⟨u, hu⟩ := behind_applies (all_rise _ hr h1) (behind_ok eb) h2
      exact ⟨u, (all_append _ _ _ _).mpr ⟨x, h1, hu⟩⟩
theorem Outs_applies {a m : List Step} {l : List Nat} (h : Outs a l m) : ∀ {t w : Tree}, Rise t → appliedAll t a = some w → ∃ u, appliedAll t m = some u := by
  induction h with
  | nil => intro t w _ h; exact ⟨w, h⟩
  | cons e _ ih =>
    intro t w hr h
    obtain ⟨u, hu⟩ := without_applies hr e h
    exact ih hr hu
end Rw
end
section
set_option autoImplicit false
namespace Rw
open VapatBase (Step Tokens Tree readNat readPair readTimes readListed readTokens readStep whole Reader okStep okTokens)

def tokB (z : Int) : Bool := decide (0 ≤ z) && decide (z ≤ 99)
theorem readNat_nil (lo hi : Nat) : readNat lo hi [] = none := rfl
theorem readNat_cons (lo hi : Nat) (z : Int) (r : List Int) : readNat lo hi (z :: r) = if (lo : Int) ≤ z ∧ z ≤ (hi : Int) then some (z.toNat, r) else none := rfl
/-- tokens read: so many of them, each one a token -/
theorem readTimes_tok : ∀ (n : Nat) (x : List Int), readTimes (readNat 0 99) n x = if n ≤ x.length ∧ (x.take n).all tokB = true then some ((x.take n).map Int.toNat, x.drop n) else none
  | 0, x => by simp [readTimes]
  | n + 1, [] => by simp [readTimes, readNat]
  | n + 1, z :: r => by
    rw [readTimes, readNat_cons]
    by_cases h : tokB z = true
    · have hz : ((0 : Nat) : Int) ≤ z ∧ z ≤ ((99 : Nat) : Int) := by simpa [tokB] using h
      rw [if_pos hz, Option.bind_some, readTimes_tok n r]
      by_cases h2 : n ≤ r.length ∧ (r.take n).all tokB = true
      · rw [if_pos h2, if_pos ⟨by simp; exact h2.1, by rw [List.take_succ_cons, List.all_cons, h, Bool.true_and]; exact h2.2⟩]
        simp
      · rw [if_neg h2, if_neg]
        · rfl
        · intro h3
          apply h2
          refine ⟨by simpa using h3.1, ?_⟩
          have := h3.2
          rw [List.take_succ_cons, List.all_cons, Bool.and_eq_true] at this
          exact this.2
    · have hz : ¬ (((0 : Nat) : Int) ≤ z ∧ z ≤ ((99 : Nat) : Int)) := by
        intro k; exact h (by simpa [tokB] using k)
      rw [if_neg hz, if_neg]
      · rfl
      · intro h3
        have := h3.2
        rw [List.take_succ_cons, List.all_cons, Bool.and_eq_true] at this
        exact h this.1
/-- what tokens_at tells of a list from a place on -/
def tokensAt (ns : List Int) (pl : Nat) (m : Nat) : Option Tokens := match ns[pl]? with
  | none => none
  | some c => if 0 ≤ c ∧ c ≤ (m : Int) then (if pl + 1 + c.toNat ≤ ns.length ∧ ((ns.drop (pl + 1)).take c.toNat).all tokB = true then some (((ns.drop (pl + 1)).take c.toNat).map Int.toNat) else none) else none
theorem drop_at {α : Type} {l : List α} {i : Nat} {x : α} (h : l[i]? = some x) : l.drop i = x :: l.drop (i + 1) := by
  obtain ⟨hi, e⟩ := List.getElem?_eq_some_iff.mp h
  rw [List.drop_eq_getElem_cons hi, e]
theorem readTokens_drop (ns : List Int) (pl m : Nat) : readTokens m (ns.drop pl) = (tokensAt ns pl m).map fun u => (u, ns.drop (pl + 1 + u.length)) := by
  unfold readTokens readListed tokensAt
  cases h : ns[pl]? with
  | none =>
    have : ns.drop pl = [] := List.drop_eq_nil_of_le (List.getElem?_eq_none_iff.mp h)
    rw [this]; rfl
  | some c =>
    rw [drop_at h, readNat_cons]
    have hlen : pl < ns.length := (List.getElem?_eq_some_iff.mp h).1
    by_cases hc : 0 ≤ c ∧ c ≤ (m : Int)
    · rw [if_pos (by simpa using hc), Option.bind_some]
      simp only [hc, and_self, if_true]
      have e : VapatBase.TOKENS - 1 = 99 := rfl
      rw [e, readTimes_tok]
      have e2 : c.toNat ≤ (ns.drop (pl + 1)).length ↔ pl + 1 + c.toNat ≤ ns.length := by rw [List.length_drop]; omega
      by_cases h2 : pl + 1 + c.toNat ≤ ns.length ∧ ((ns.drop (pl + 1)).take c.toNat).all tokB = true
      · rw [if_pos ⟨e2.mpr h2.1, h2.2⟩, if_pos h2, Option.map_some, List.drop_drop, List.length_map, List.length_take, List.length_drop]
        rw [show min c.toNat (ns.length - (pl + 1)) = c.toNat from by omega]
      · rw [if_neg (fun k => h2 ⟨e2.mp k.1, k.2⟩), if_neg h2]; rfl
    · rw [if_neg (by simpa using hc)]
      simp only [hc, if_false]
      rfl
theorem tokensAt_len {ns : List Int} {pl m : Nat} {u : Tokens} (h : tokensAt ns pl m = some u) : u.length ≤ m ∧ pl + 1 + u.length ≤ ns.length ∧ ns[pl]? = some (u.length : Int) ∧ ∀ x ∈ u, x < 100 := by
  unfold tokensAt at h
  split at h
  · cases h
  · next c hc =>
    split at h
    · next h1 =>
      split at h
      · next h2 =>
        cases h
        have : ((ns.drop (pl + 1)).take c.toNat).length = c.toNat := by rw [List.length_take, List.length_drop]; omega
        rw [List.length_map, this]
        refine ⟨by omega, h2.1, by rw [hc]; congr 1; omega, fun x hx => ?_⟩
        obtain ⟨z, hz, rfl⟩ := List.mem_map.mp hx
        have := List.all_eq_true.mp h2.2 z hz
        simp [tokB] at this
        omega
      · cases h
    · cases h
end Rw
namespace Rw
theorem tokensAt_out {ns : List Int} {pl m : Nat} (h : ns.length ≤ pl) : tokensAt ns pl m = none := by
  rw [tokensAt, List.getElem?_eq_none_iff.mpr h]
theorem tokensAt_no {ns : List Int} {pl m : Nat} {z : Int} (hz : ns[pl]? = some z) (h : ¬ (0 ≤ z ∧ z ≤ (m : Int))) : tokensAt ns pl m = none := by
  rw [tokensAt, hz]
  exact if_neg h
theorem tokensAt_few {ns : List Int} {pl m : Nat} {z : Int} (hz : ns[pl]? = some z) (h : ¬ (pl + 1 + z.toNat ≤ ns.length ∧ ((ns.drop (pl + 1)).take z.toNat).all tokB = true)) : tokensAt ns pl m = none := by
  rw [tokensAt, hz]
  simp only [h, if_false, ite_self]
theorem tokensAt_yes {ns : List Int} {pl m : Nat} {z : Int} (hz : ns[pl]? = some z) (h0 : 0 ≤ z ∧ z ≤ (m : Int)) (h : pl + 1 + z.toNat ≤ ns.length ∧ ((ns.drop (pl + 1)).take z.toNat).all tokB = true) :
    tokensAt ns pl m = some (((ns.drop (pl + 1)).take z.toNat).map Int.toNat) := by
  rw [tokensAt, hz]
  simp only [h0, h, and_self, if_true]
theorem toNat_back : ∀ {l : List Int}, l.all tokB = true → l.map (fun z => ((z.toNat : Nat) : Int)) = l
  | [], _ => rfl
  | z :: r, h => by
    rw [List.all_cons, Bool.and_eq_true] at h
    have : 0 ≤ z := by have := h.1; simp [tokB] at this; exact this.1
    rw [List.map_cons, toNat_back h.2, Int.toNat_of_nonneg this]
end Rw
end
section
set_option autoImplicit false
namespace Rw
open VapatBase (Step Tokens Tree fileIn putFile dropFile applied appliedAll)
/-! ### trees as lists of names -/
theorem mem_of_fileIn : ∀ {t : Tree} {f : Nat} {c : Tokens}, fileIn t f = some c → (f, c) ∈ t
  | [], f, c, h => by rw [fileIn_nil] at h; cases h
  | x :: t, f, c, h => by
    rw [fileIn_cons] at h
    split at h
    · next e =>
      cases h
      rw [e]
      exact List.mem_cons_self
    · exact List.mem_cons_of_mem _ (mem_of_fileIn h)
theorem fileIn_of_mem : ∀ {t : Tree} {f : Nat} {c : Tokens}, Rise t → (f, c) ∈ t → fileIn t f = some c
  | [], f, c, _, h => by cases h
  | x :: t, f, c, hr, h => by
    rw [fileIn_cons]
    rcases List.mem_cons.mp h with e | h
    · subst e; rw [if_pos rfl]
    · have := rise_head hr _ h
      rw [if_neg (by simp only at this; omega)]
      exact fileIn_of_mem (rise_tail hr) h
theorem put_perm_new {β : Type} (g : Nat × Tokens → β) (f : Nat) (c : Tokens) : ∀ {t : Tree}, fileIn t f = none → ((putFile f c t).map g).Perm (g (f, c) :: t.map g)
  | [], _ => by simp [putFile]
  | x :: t, h => by
    rw [fileIn_cons] at h
    have hx : ¬ f = x.1 := by intro e; rw [if_pos e] at h; cases h
    rw [if_neg hx] at h
    unfold putFile
    split
    · simp
    · try rw [if_neg hx]
      rw [List.map_cons, List.map_cons]
      exact ((put_perm_new g f c h).cons _).trans (List.Perm.swap ..)
theorem put_names_old (f : Nat) (c : Tokens) : ∀ {t : Tree}, Rise t → (fileIn t f).isSome = true → (putFile f c t).map (fun x => x.1) = t.map fun x => x.1
  | [], _, h => by rw [fileIn_nil] at h; cases h
  | x :: t, hr, h => by
    unfold putFile
    split
    · next hf =>
      exfalso
      rw [fileIn_cons, if_neg (by omega), fileIn_none_of_lt fun y hy => Nat.lt_trans hf (rise_head hr y hy)] at h
      cases h
    · split
      · next e => simp [e]
      · next e =>
        rw [fileIn_cons, if_neg e] at h
        rw [List.map_cons, List.map_cons, put_names_old f c (rise_tail hr) h]
theorem drop_names (f : Nat) (t : Tree) : (dropFile f t).map (fun x => x.1) = (t.map fun x => x.1).filter fun k => k != f := by
  unfold dropFile
  rw [List.filter_map]
  rfl
/-- names below ten, contents of at most so many tokens, names rising -/
def wfT (n : Nat) (t : Tree) : Prop := Rise t ∧ ∀ x ∈ t, x.1 < 10 ∧ x.2.length ≤ n
theorem rise_len : ∀ {l : List Nat} (a n : Nat), l.Pairwise (· < ·) → (∀ x ∈ l, a ≤ x ∧ x < n) → l.length ≤ n - a
  | [], a, n, _, _ => Nat.zero_le _
  | x :: l, a, n, hp, h => by
    have hx := h x List.mem_cons_self
    have := rise_len (l := l) (x + 1) n (List.pairwise_cons.mp hp).2 fun y hy => ⟨(List.pairwise_cons.mp hp).1 y hy, (h y (List.mem_cons_of_mem _ hy)).2⟩
    rw [List.length_cons]
    omega
theorem wfT.len {n : Nat} {t : Tree} (h : wfT n t) : t.length ≤ 10 := by
  have := rise_len (l := t.map fun x => x.1) 0 10 (List.pairwise_map.mpr (show t.Pairwise (fun x y => x.1 < y.1) from h.1)) fun x hx => by
    obtain ⟨y, hy, rfl⟩ := List.mem_map.mp hx
    exact ⟨Nat.zero_le _, (h.2 y hy).1⟩
  simpa using this
theorem wfT.mono {n m : Nat} {t : Tree} (h : wfT n t) (hm : n ≤ m) : wfT m t := ⟨h.1, fun x hx => ⟨(h.2 x hx).1, Nat.le_trans (h.2 x hx).2 hm⟩⟩
theorem wfT.put {n f : Nat} {c : Tokens} {t : Tree} (h : wfT n t) (hf : f < 10) (hc : c.length ≤ n) : wfT n (putFile f c t) := by
  refine ⟨rise_put _ _ _ h.1, fun x hx => ?_⟩
  rcases mem_put f c t x hx with rfl | hx
  · exact ⟨hf, hc⟩
  · exact h.2 x hx
theorem wfT.drop {n f : Nat} {t : Tree} (h : wfT n t) : wfT n (dropFile f t) := ⟨rise_drop _ h.1, fun x hx => h.2 x (List.mem_filter.mp hx).1⟩
theorem wfT.file {n f : Nat} {c : Tokens} {t : Tree} (h : wfT n t) (hf : fileIn t f = some c) : f < 10 ∧ c.length ≤ n := h.2 _ (mem_of_fileIn hf)
/-- a step within the limits that all steps keep to -/
def wf : Step → Prop
  | .hunk f _ o n => f < 10 ∧ o.length ≤ 8 ∧ n.length ≤ 8
  | .swap f _ _ => f < 10
  | .add f => f < 10
  | .remove f => f < 10
  | .move f g => f < 10 ∧ g < 10
theorem wf.apply {n : Nat} {t u : Tree} {p : Step} (ht : wfT n t) (hp : wf p) (h : applied t p = some u) : wfT (n + 8) u := by
  have h8 := ht.mono (Nat.le_add_right n 8)
  cases p with
  | hunk f a o v =>
    obtain ⟨c, d, h1, h2, rfl⟩ := (applied_at_iff t u f (.h a o v)).mp h
    obtain ⟨A, B, rfl, _, rfl⟩ := (spliced_iff _ _ _ _ _).mp h2
    have := (ht.file h1).2
    refine h8.put hp.1 ?_
    simp only [List.length_append] at this ⊢
    have := hp.2.2
    omega
  | swap f x y =>
    obtain ⟨c, d, h1, h2, rfl⟩ := (applied_at_iff t u f (.s x y)).mp h
    cases h2
    refine h8.put hp ?_
    rw [swapAll_len]
    exact (h8.file h1).2
  | add f => obtain ⟨_, rfl⟩ := (applied_add_iff _ _ _).mp h; exact h8.put hp (Nat.zero_le _)
  | remove f => obtain ⟨_, rfl⟩ := (applied_remove_iff _ _ _).mp h; exact h8.drop
  | move f g => obtain ⟨c, h1, _, rfl⟩ := (applied_move_iff _ _ _ _).mp h; exact h8.drop.put hp.2 (h8.file h1).2
end Rw
end
section
set_option autoImplicit false
namespace Rw
open VapatBase (Step Tokens Tree readNat readPair readTimes readListed readTokens readStep whole Reader okStep okTokens)
/-! ### a step read from numbers -/
def natAt (ns : List Int) (i lo hi : Nat) : Option Nat := match ns[i]? with
  | none => none
  | some z => if (lo : Int) ≤ z ∧ z ≤ (hi : Int) then some z.toNat else none
theorem readNat_drop (ns : List Int) (i lo hi : Nat) : readNat lo hi (ns.drop i) = (natAt ns i lo hi).map fun n => (n, ns.drop (i + 1)) := by
  unfold natAt
  cases h : ns[i]? with
  | none =>
    have : ns.drop i = [] := List.drop_eq_nil_of_le (List.getElem?_eq_none_iff.mp h)
    rw [this]; rfl
  | some z =>
    rw [drop_at h, readNat_cons]
    by_cases hc : (lo : Int) ≤ z ∧ z ≤ (hi : Int)
    · rw [if_pos hc]; simp [hc]
    · rw [if_neg hc]; simp [hc]
theorem natAt_some {ns : List Int} {i lo hi n : Nat} (h : natAt ns i lo hi = some n) : ns[i]? = some (n : Int) ∧ lo ≤ n ∧ n ≤ hi := by
  unfold natAt at h
  split at h
  · cases h
  · next z hz =>
    split at h
    · next hc =>
      cases h
      refine ⟨?_, by omega, by omega⟩
      rw [hz]
      congr 1
      omega
    · cases h
theorem natAt_yes {ns : List Int} {i lo hi : Nat} {z : Int} (h : ns[i]? = some z) (hc : (lo : Int) ≤ z ∧ z ≤ (hi : Int)) : natAt ns i lo hi = some z.toNat := by
  rw [natAt, h]; exact if_pos hc
theorem natAt_no {ns : List Int} {i lo hi : Nat} {z : Int} (h : ns[i]? = some z) (hc : ¬ ((lo : Int) ≤ z ∧ z ≤ (hi : Int))) : natAt ns i lo hi = none := by
  rw [natAt, h]; exact if_neg hc
theorem natAt_out {ns : List Int} {i lo hi : Nat} (h : ns.length ≤ i) : natAt ns i lo hi = none := by
  rw [natAt, List.getElem?_eq_none_iff.mpr h]
def hunkOf (ns : List Int) : Option Step := (natAt ns 1 0 9).bind fun f => (natAt ns 2 0 1000).bind fun a => (tokensAt ns 3 8).bind fun o => (tokensAt ns (4 + o.length) 8).bind fun n =>
  if ns.length = 5 + o.length + n.length ∧ ¬ (o.length = 0 ∧ n.length = 0) then some (.hunk f a o n) else none
def swapOf (ns : List Int) : Option Step := (natAt ns 1 0 9).bind fun f => (natAt ns 2 0 99).bind fun x => (natAt ns 3 0 99).bind fun y => if ns.length = 4 ∧ x ≠ y then some (.swap f x y) else none
def addOf (ns : List Int) : Option Step := (natAt ns 1 0 9).bind fun f => if ns.length = 2 then some (.add f) else none
def removeOf (ns : List Int) : Option Step := (natAt ns 1 0 9).bind fun f => if ns.length = 2 then some (.remove f) else none
def moveOf (ns : List Int) : Option Step := (natAt ns 1 0 9).bind fun f => (natAt ns 2 0 9).bind fun g => if ns.length = 3 ∧ f ≠ g then some (.move f g) else none
def stepOf (ns : List Int) : Option Step := match ns[0]? with
  | none => none
  | some z => if z = 0 then hunkOf ns else if z = 1 then swapOf ns else if z = 2 then addOf ns else if z = 3 then removeOf ns else if z = 4 then moveOf ns else none
theorem whole_bind {A B : Type} (o : Option (A × List Int)) (f : A × List Int → Option (B × List Int)) (x : List Int) (rd : Reader B) (h : rd x = o.bind f) :
    whole rd x = o.bind fun u => match f u with
      | some (v, []) => some v
      | _ => none := by
  unfold whole
  rw [h]
  cases o <;> rfl
theorem drop_nil_iff (ns : List Int) (i : Nat) : ns.drop i = [] ↔ ns.length ≤ i := List.drop_eq_nil_iff
theorem tail_one (ns : List Int) (z : Int) (r : List Int) (h : ns = z :: r) : r = ns.drop 1 := by rw [h]; rfl
theorem fin_rest {B : Type} (v : B) (ns : List Int) (i : Nat) (hi : i ≤ ns.length) : whole (fun _ => some (v, ns.drop i)) [] = if ns.length = i then some v else none := by
  unfold whole
  by_cases h : ns.length = i
  · rw [if_pos h, (drop_nil_iff ns i).mpr (by omega)]
  · rw [if_neg h]
    cases e : ns.drop i with
    | nil => have := (drop_nil_iff ns i).mp e; omega
    | cons => rfl
theorem okTokens_of {l : List Nat} (h : l.length ≤ 8) (h2 : ∀ x ∈ l, x < 100) : okTokens 8 l = true := by
  simp only [okTokens, Bool.and_eq_true, decide_eq_true_eq, List.all_eq_true]
  exact ⟨h, fun x hx => h2 x hx⟩
theorem whole_step (ns : List Int) : whole readStep ns = stepOf ns := by
  cases ns with
  | nil => rfl
  | cons z r =>
    have hd : r = (z :: r).drop 1 := rfl
    have h0 : (z :: r)[0]? = some z := rfl
    by_cases z0 : z = 0
    · subst z0
      have : stepOf (0 :: r) = hunkOf (0 :: r) := rfl
      rw [this]
      have hr : readStep (0 :: r) = (readPair (readNat 0 9) (readPair (readNat 0 1000) (readPair (readTokens 8) (readTokens 8))) r).bind fun u => if okStep (.hunk u.1.1 u.1.2.1 u.1.2.2.1 u.1.2.2.2) then some (.hunk u.1.1 u.1.2.1 u.1.2.2.1 u.1.2.2.2, u.2) else none := rfl
      show whole (fun _ => readStep (0 :: r)) [] = _
      rw [hr]
      have hR : r = (0 :: r).drop 1 := rfl
      generalize hns : (0 :: r : List Int) = ns at hR
      rw [hR]
      unfold readPair hunkOf
      rw [readNat_drop]
      cases e1 : natAt ns 1 0 9 with
      | none => rfl
      | some f =>
        simp only [Option.map_some, Option.bind_some]
        rw [readNat_drop]
        cases e2 : natAt ns 2 0 1000 with
        | none => rfl
        | some a =>
          simp only [Option.map_some, Option.bind_some]
          rw [readTokens_drop]
          cases e3 : tokensAt ns 3 8 with
          | none => rfl
          | some o =>
            simp only [Option.map_some, Option.bind_some]
            rw [readTokens_drop]
            rw [show 3 + 1 + o.length = 4 + o.length from by omega]
            cases e4 : tokensAt ns (4 + o.length) 8 with
            | none => rfl
            | some n =>
              simp only [Option.map_some, Option.bind_some]
              have lo := tokensAt_len e3
              have ln := tokensAt_len e4
              have hf := natAt_some e1
              have ha := natAt_some e2
              rw [show 4 + o.length + 1 + n.length = 5 + o.length + n.length from by omega]
              by_cases hb : o.length = 0 ∧ n.length = 0
              · have h1 : o = [] := List.length_eq_zero_iff.mp hb.1
                have h2 : n = [] := List.length_eq_zero_iff.mp hb.2
                have : okStep (.hunk f a o n) = false := by subst h1 h2; simp [okStep]
                rw [this]
                rw [if_neg (by simp), if_neg (fun k => k.2 hb)]
                rfl
              · have hne : (!(o.isEmpty && n.isEmpty)) = true := by
                  cases o <;> cases n <;> simp at hb ⊢
                have : okStep (.hunk f a o n) = true := by
                  show (decide (f < 10) && (decide (a ≤ 1000) && (okTokens 8 o && (okTokens 8 n && !(o.isEmpty && n.isEmpty))))) = true
                  rw [okTokens_of lo.1 lo.2.2.2, okTokens_of ln.1 ln.2.2.2, hne, decide_eq_true (show f < 10 from by omega), decide_eq_true (show a ≤ 1000 from by omega)]
                  rfl
                rw [this, if_pos rfl, fin_rest _ ns _ (by omega)]
                by_cases hl : ns.length = 5 + o.length + n.length
                · rw [if_pos hl, if_pos ⟨hl, hb⟩]
                · rw [if_neg hl, if_neg (fun k => hl k.1)]
    · by_cases z1 : z = 1
      · subst z1
        have : stepOf (1 :: r) = swapOf (1 :: r) := rfl
        rw [this]
        have hr : readStep (1 :: r) = (readPair (readNat 0 9) (readPair (readNat 0 99) (readNat 0 99)) r).bind fun u => if okStep (.swap u.1.1 u.1.2.1 u.1.2.2) then some (.swap u.1.1 u.1.2.1 u.1.2.2, u.2) else none := rfl
        show whole (fun _ => readStep (1 :: r)) [] = _
        rw [hr]
        have hR : r = (1 :: r).drop 1 := rfl
        generalize hns : (1 :: r : List Int) = ns at hR
        rw [hR]
        unfold readPair swapOf
        rw [readNat_drop]
        cases e1 : natAt ns 1 0 9 with
        | none => rfl
        | some f =>
          simp only [Option.map_some, Option.bind_some]
          rw [readNat_drop]
          cases e2 : natAt ns 2 0 99 with
          | none => rfl
          | some x =>
            simp only [Option.map_some, Option.bind_some]
            rw [readNat_drop]
            cases e3 : natAt ns 3 0 99 with
            | none => rfl
            | some y =>
              simp only [Option.map_some, Option.bind_some]
              have hf := natAt_some e1
              have hx := natAt_some e2
              have hy := natAt_some e3
              have h3 := (List.getElem?_eq_some_iff.mp hy.1).1
              by_cases hb : x = y
              · have : okStep (.swap f x y) = false := by subst hb; simp [okStep]
                rw [this, if_neg (by simp), if_neg (fun k => k.2 hb)]
                rfl
              · have : okStep (.swap f x y) = true := by
                  show (decide (f < 10) && (decide (x < 100) && (decide (y < 100) && x != y))) = true
                  rw [decide_eq_true (show f < 10 from by omega), decide_eq_true (show x < 100 from by omega), decide_eq_true (show y < 100 from by omega)]
                  simpa using hb
                rw [this, if_pos rfl, fin_rest _ ns _ (by omega)]
                by_cases hl : ns.length = 3 + 1
                · rw [if_pos hl, if_pos ⟨hl, hb⟩]
                · rw [if_neg hl, if_neg (fun k => hl k.1)]
      · by_cases z2 : z = 2
        · subst z2
          have : stepOf (2 :: r) = addOf (2 :: r) := rfl
          rw [this]
          have hr : readStep (2 :: r) = (readNat 0 9 r).map fun u => (.add u.1, u.2) := rfl
          show whole (fun _ => readStep (2 :: r)) [] = _
          rw [hr]
          have hR : r = (2 :: r).drop 1 := rfl
          generalize hns : (2 :: r : List Int) = ns at hR
          rw [hR]
          unfold addOf
          rw [readNat_drop]
          cases e1 : natAt ns 1 0 9 with
          | none => rfl
          | some f =>
            simp only [Option.map_some, Option.bind_some]
            have h3 := (List.getElem?_eq_some_iff.mp (natAt_some e1).1).1
            rw [fin_rest _ ns _ (by omega)]
        · by_cases z3 : z = 3
          · subst z3
            have : stepOf (3 :: r) = removeOf (3 :: r) := rfl
            rw [this]
            have hr : readStep (3 :: r) = (readNat 0 9 r).map fun u => (.remove u.1, u.2) := rfl
            show whole (fun _ => readStep (3 :: r)) [] = _
            rw [hr]
            have hR : r = (3 :: r).drop 1 := rfl
            generalize hns : (3 :: r : List Int) = ns at hR
            rw [hR]
            unfold removeOf
            rw [readNat_drop]
            cases e1 : natAt ns 1 0 9 with
            | none => rfl
            | some f =>
              simp only [Option.map_some, Option.bind_some]
              have h3 := (List.getElem?_eq_some_iff.mp (natAt_some e1).1).1
              rw [fin_rest _ ns _ (by omega)]
          · by_cases z4 : z = 4
            · subst z4
              have : stepOf (4 :: r) = moveOf (4 :: r) := rfl
              rw [this]
              have hr : readStep (4 :: r) = (readPair (readNat 0 9) (readNat 0 9) r).bind fun u => if okStep (.move u.1.1 u.1.2) then some (.move u.1.1 u.1.2, u.2) else none := rfl
              show whole (fun _ => readStep (4 :: r)) [] = _
              rw [hr]
              have hR : r = (4 :: r).drop 1 := rfl
              generalize hns : (4 :: r : List Int) = ns at hR
              rw [hR]
              unfold readPair moveOf
              rw [readNat_drop]
              cases e1 : natAt ns 1 0 9 with
              | none => rfl
              | some f =>
                simp only [Option.map_some, Option.bind_some]
                rw [readNat_drop]
                cases e2 : natAt ns 2 0 9 with
                | none => rfl
                | some g =>
                  simp only [Option.map_some, Option.bind_some]
                  have hf := natAt_some e1
                  have hg := natAt_some e2
                  have h3 := (List.getElem?_eq_some_iff.mp hg.1).1
                  by_cases hb : f = g
                  · have : okStep (.move f g) = false := by subst hb; simp [okStep]
                    rw [this, if_neg (by simp), if_neg (fun k => k.2 hb)]
                    rfl
                  · have : okStep (.move f g) = true := by
                      show (decide (f < 10) && (decide (g < 10) && f != g)) = true
                      rw [decide_eq_true (show f < 10 from by omega), decide_eq_true (show g < 10 from by omega)]
                      simpa using hb
                    rw [this, if_pos rfl, fin_rest _ ns _ (by omega)]
                    by_cases hl : ns.length = 2 + 1
                    · rw [if_pos hl, if_pos ⟨hl, hb⟩]
                    · rw [if_neg hl, if_neg (fun k => hl k.1)]
            · have : stepOf (z :: r) = none := by simp [stepOf, z0, z1, z2, z3, z4]
              rw [this]
              have hr : readStep (z :: r) = none := by
                unfold readStep
                split <;> simp_all
              unfold whole
              rw [hr]
end Rw
namespace Rw
open VapatBase (Step)
theorem hunkOf_1 {ns : List Int} (h : natAt ns 1 0 9 = none) : hunkOf ns = none := by rw [hunkOf, h]; rfl
theorem hunkOf_2 {ns : List Int} (h : natAt ns 2 0 1000 = none) : hunkOf ns = none := by
  unfold hunkOf
  rw [h]
  cases natAt ns 1 0 9 <;> rfl
theorem hunkOf_go {ns : List Int} {f a : Nat} (h1 : natAt ns 1 0 9 = some f) (h2 : natAt ns 2 0 1000 = some a) : hunkOf ns = (tokensAt ns 3 8).bind fun o => (tokensAt ns (4 + o.length) 8).bind fun n =>
    if ns.length = 5 + o.length + n.length ∧ ¬ (o.length = 0 ∧ n.length = 0) then some (.hunk f a o n) else none := by
  rw [hunkOf, h1, Option.bind_some, h2, Option.bind_some]
end Rw
end
section
set_option autoImplicit false
namespace Rw
open VapatBase (Step Tokens Tree readNat readPair readTimes readListed readTokens readStep whole Reader okStep okTokens)
/-! ### a tree read from numbers -/
def lastOf (t : Tree) : Int := match t.getLast? with
  | none => -1
  | some x => (x.1 : Int)
/-- one file more -/
def oneMore (ns : List Int) (u : Tree × Nat) : Option (Tree × Nat) := (tokensAt ns (u.2 + 1) 12).bind fun c => (natAt ns u.2 0 9).bind fun f => if lastOf u.1 < (f : Int) then some (u.1 ++ [(f, c)], u.2 + 2 + c.length) else none
def scanR (ns : List Int) : Nat → Option (Tree × Nat)
  | 0 => some ([], 1)
  | i + 1 => (scanR ns i).bind (oneMore ns)
/-- the same, not looking whether the names rise -/
def fileMore (ns : List Int) (u : Tree × Nat) : Option (Tree × Nat) := (natAt ns u.2 0 9).bind fun f => (tokensAt ns (u.2 + 1) 12).map fun c => (u.1 ++ [(f, c)], u.2 + 2 + c.length)
def scan (ns : List Int) : Nat → Option (Tree × Nat)
  | 0 => some ([], 1)
  | i + 1 => (scan ns i).bind (fileMore ns)
theorem times_more {A : Type} (a : Reader A) : ∀ (n : Nat) (x : List Int), readTimes a (n + 1) x = (readTimes a n x).bind fun u => (a u.2).map fun v => (u.1 ++ [v.1], v.2)
  | 0, x => by
    rw [readTimes, readTimes]
    simp only [Option.bind_some]
    cases a x <;> rfl
  | n + 1, x => by
    rw [readTimes]
    conv => rhs; rw [readTimes]
    cases a x with
    | none => rfl
    | some u =>
      simp only [Option.bind_some]
      rw [times_more a n u.2]
      cases readTimes a n u.2 with
      | none => rfl
      | some v =>
        simp only [Option.bind_some, Option.map_some]
        cases a v.2 <;> rfl
abbrev readFile : Reader (Nat × Tokens) := readPair (readNat 0 (VapatBase.NAMES - 1)) (readTokens Vapatb.FILE)
theorem readFile_drop (ns : List Int) (pl : Nat) : readFile (ns.drop pl) = (natAt ns pl 0 9).bind fun f => (tokensAt ns (pl + 1) 12).map fun c => ((f, c), ns.drop (pl + 2 + c.length)) := by
  unfold readFile readPair
  rw [show VapatBase.NAMES - 1 = 9 from rfl, readNat_drop]
  cases natAt ns pl 0 9 with
  | none => rfl
  | some f =>
    simp only [Option.bind_some, Option.map_some]
    rw [show Vapatb.FILE = 12 from rfl, readTokens_drop]
    cases tokensAt ns (pl + 1) 12 <;> rfl
theorem scan_times (ns : List Int) : ∀ n : Nat, readTimes readFile n (ns.drop 1) = (scan ns n).map fun u => (u.1, ns.drop u.2)
  | 0 => rfl
  | n + 1 => by
    rw [times_more, scan_times ns n, scan]
    cases scan ns n with
    | none => rfl
    | some u =>
      simp only [Option.bind_some, Option.map_some]
      rw [readFile_drop, fileMore]
      cases natAt ns u.2 0 9 with
      | none => rfl
      | some f =>
        simp only [Option.bind_some]
        cases tokensAt ns (u.2 + 1) 12 <;> rfl
theorem rises_snoc : ∀ (l : List Nat) (f : Nat), Vapatb.rises (l ++ [f]) = (Vapatb.rises l && match l.getLast? with | none => true | some x => decide (x < f))
  | [], f => rfl
  | [a], f => by simp [Vapatb.rises]
  | a :: b :: l, f => by
    have ih := rises_snoc (b :: l) f
    show (decide (a < b) && Vapatb.rises ((b :: l) ++ [f])) = _
    rw [ih]
    have : (a :: b :: l).getLast? = (b :: l).getLast? := by simp [List.getLast?_cons_cons]
    rw [this]
    show _ = ((decide (a < b) && Vapatb.rises (b :: l)) && _)
    rw [Bool.and_assoc]
def risesT (t : Tree) : Bool := Vapatb.rises (t.map fun y => y.1)
theorem risesT_snoc (t : Tree) (f : Nat) (c : Tokens) : risesT (t ++ [(f, c)]) = (risesT t && decide (lastOf t < (f : Int))) := by
  unfold risesT lastOf
  rw [List.map_append, List.map_cons, List.map_nil, rises_snoc, List.getLast?_map]
  cases t.getLast? with
  | none =>
    have : (-1 : Int) < (f : Int) := by omega
    simp [this]
  | some x => simp
theorem scanR_scan (ns : List Int) : ∀ n : Nat, scanR ns n = (scan ns n).bind fun u => if risesT u.1 then some u else none
  | 0 => rfl
  | n + 1 => by
    rw [scanR, scanR_scan ns n, scan]
    cases scan ns n with
    | none => rfl
    | some u =>
      simp only [Option.bind_some]
      rw [fileMore]
      by_cases h : risesT u.1 = true
      · rw [if_pos h, Option.bind_some, oneMore]
        cases natAt ns u.2 0 9 with
        | none => cases tokensAt ns (u.2 + 1) 12 <;> rfl
        | some f =>
          cases tokensAt ns (u.2 + 1) 12 with
          | none => rfl
          | some c =>
            simp only [Option.bind_some, Option.map_some]
            rw [risesT_snoc, h]
            by_cases h2 : lastOf u.1 < (f : Int) <;> simp [h2]
      · rw [if_neg h]
        cases natAt ns u.2 0 9 with
        | none => rfl
        | some f =>
          cases tokensAt ns (u.2 + 1) 12 with
          | none => rfl
          | some c =>
            simp only [Option.bind_some, Option.map_some]
            rw [risesT_snoc, Bool.eq_false_iff.mpr h]
            rfl
theorem scanR_stop (ns : List Int) {i n : Nat} (h : scanR ns i = none) (hi : i ≤ n) : scanR ns n = none := by
  induction n with
  | zero => have : i = 0 := by omega
            subst this; exact h
  | succ n ih =>
    by_cases e : i = n + 1
    · subst e; exact h
    · rw [scanR, ih (by omega)]; rfl
/-- what the scan holds -/
theorem scanR_inv (ns : List Int) (h1 : 1 ≤ ns.length) : ∀ (n : Nat) {t : Tree} {pl : Nat}, scanR ns n = some (t, pl) → pl ≤ ns.length ∧ t.length = n ∧ wfT 12 t ∧ ∀ x ∈ t, (x.1 : Int) ≤ lastOf t
  | 0, t, pl, h => by
    cases h
    exact ⟨h1, rfl, ⟨.nil, fun x hx => by cases hx⟩, fun x hx => by cases hx⟩
  | n + 1, t, pl, h => by
    rw [scanR] at h
    cases e : scanR ns n with
    | none => rw [e] at h; cases h
    | some u =>
      obtain ⟨v, q⟩ := u
      rw [e, Option.bind_some, oneMore] at h
      obtain ⟨k1, k2, k3, k4⟩ := scanR_inv ns h1 n e
      cases e1 : tokensAt ns (q + 1) 12 with
      | none => simp only [e1] at h; cases h
      | some c =>
        simp only [e1, Option.bind_some] at h
        cases e2 : natAt ns q 0 9 with
        | none => rw [e2] at h; cases h
        | some f =>
          rw [e2, Option.bind_some] at h
          split at h
          · next lt =>
            cases h
            have tl := tokensAt_len e1
            have f9 : f < 10 := by
              unfold natAt at e2
              split at e2
              · cases e2
              · next z _ =>
                split at e2
                · next hz => cases e2; omega
                · cases e2
            have la : lastOf (v ++ [(f, c)]) = (f : Int) := by simp [lastOf]
            refine ⟨by have := tl.2.1; omega, by simp [k2], ⟨?_, ?_⟩, ?_⟩
            · refine List.pairwise_append.mpr ⟨k3.1, List.pairwise_singleton _ _, fun x hx y hy => ?_⟩
              rw [List.mem_singleton.mp hy]
              have := k4 x hx
              show x.1 < f
              omega
            · intro x hx
              rcases List.mem_append.mp hx with hx | hx
              · exact k3.2 x hx
              · rw [List.mem_singleton.mp hx]; exact ⟨f9, tl.1⟩
            · intro x hx
              rw [la]
              rcases List.mem_append.mp hx with hx | hx
              · have := k4 x hx; omega
              · rw [List.mem_singleton.mp hx]; exact Int.le_refl _
          · cases h
def treeOf (ns : List Int) : Option Tree := (natAt ns 0 0 6).bind fun n => (scanR ns n).bind fun u => if u.2 = ns.length then some u.1 else none
theorem whole_tree (ns : List Int) : whole Vapatb.readTree ns = treeOf ns := by
  unfold whole treeOf Vapatb.readTree readListed
  have e0 := readNat_drop ns 0 0 6
  rw [List.drop_zero] at e0
  rw [show Vapatb.FILES = 6 from rfl, e0]
  cases hn : natAt ns 0 0 6 with
  | none => rfl
  | some n =>
    have h1 : 1 ≤ ns.length := by
      unfold natAt at hn
      split at hn
      · cases hn
      · next z hz => exact (List.getElem?_eq_some_iff.mp hz).1
    simp only [Option.map_some, Option.bind_some]
    rw [show (0 + 1) = 1 from rfl]
    have st := scan_times ns n
    unfold readFile at st
    rw [st]
    have sr := scanR_scan ns n
    cases e : scan ns n with
    | none => rw [e] at sr; rw [sr]; rfl
    | some u =>
      rw [e] at sr
      simp only [Option.bind_some, Option.map_some] at sr ⊢
      rw [sr]
      unfold risesT
      by_cases hr : Vapatb.rises (u.1.map fun y => y.1) = true
      · rw [if_pos hr]
        simp only [Option.bind_some, hr, if_true]
        have inv := scanR_inv ns h1 n (t := u.1) (pl := u.2) (by rw [sr, risesT, if_pos hr])
        by_cases hl : u.2 = ns.length
        · rw [if_pos hl, List.drop_eq_nil_of_le (by omega)]
        · rw [if_neg hl]
          cases ed : ns.drop u.2 with
          | nil => have := List.drop_eq_nil_iff.mp ed; omega
          | cons _ _ => rfl
      · rw [if_neg hr]
        simp [hr]
end Rw
end
section
set_option autoImplicit false
namespace Rw
/-! ### the calls read off the numbers -/
def runAt (ns : List Int) (pl : Nat) : Option (List Int × Nat) := match ns[pl]? with
  | none => none
  | some n => if 0 ≤ n ∧ pl + 1 + n.toNat ≤ ns.length then some ((ns.drop (pl + 1)).take n.toNat, pl + 1 + n.toNat) else none
theorem row_at (ns : List Int) (pl : Nat) : PyFlat.row (ns.drop pl) = (runAt ns pl).map fun u => (u.1, ns.drop u.2) := by
  unfold runAt
  cases h : ns[pl]? with
  | none =>
    have : ns.drop pl = [] := List.drop_eq_nil_of_le (List.getElem?_eq_none_iff.mp h)
    rw [this]
    rfl
  | some n =>
    have hl : pl < ns.length := (List.getElem?_eq_some_iff.mp h).1
    rw [drop_at h]
    show (if 0 ≤ n ∧ n.toNat ≤ (ns.drop (pl + 1)).length then some ((ns.drop (pl + 1)).take n.toNat, (ns.drop (pl + 1)).drop n.toNat) else none) = _
    by_cases c : 0 ≤ n ∧ pl + 1 + n.toNat ≤ ns.length
    · rw [if_pos ⟨c.1, by rw [List.length_drop]; omega⟩]
      simp only [c, and_self, if_true, Option.map_some]
      rw [List.drop_drop]
    · rw [if_neg (fun k => c ⟨k.1, by have := k.2; rw [List.length_drop] at this; omega⟩)]
      simp only [c, if_false, Option.map_none]
theorem runAt_ok {ns : List Int} {pl q : Nat} {l : List Int} (h : runAt ns pl = some (l, q)) : ∃ n : Nat, ns[pl]? = some (n : Int) ∧ pl + 1 + n ≤ ns.length ∧ q = pl + 1 + n ∧ l = (ns.drop (pl + 1)).take n := by
  unfold runAt at h
  split at h
  · cases h
  · next n hn =>
    split at h
    · next c =>
      cases h
      exact ⟨n.toNat, by rw [hn]; congr 1; omega, c.2, rfl, rfl⟩
    · cases h
theorem rows_0 (r : List Int) : PyFlat.rows 0 r = some ([], r) := by rw [PyFlat.rows]
theorem rows_at (ns : List Int) (pl k : Nat) : PyFlat.rows (k + 1) (ns.drop pl) = (runAt ns pl).bind fun u => (PyFlat.rows k (ns.drop u.2)).map fun v => (u.1 :: v.1, v.2) := by
  rw [PyFlat.rows, row_at]
  cases runAt ns pl with
  | none => rfl
  | some u =>
    simp only [Option.map_some, Option.bind_some]
    cases PyFlat.rows k (ns.drop u.2) <;> rfl
/-- what a call that comes is, and where it ends -/
def Front (ns : List Int) (pl : Nat) (c : List (List Int)) (q : Nat) : Prop := ∃ p, ns[pl]? = some p ∧ (
  ((p = 0 ∨ p = 8) ∧ ∃ l, runAt ns (pl + 1) = some (l, q) ∧ c = [[p], l]) ∨
  (p = 1 ∧ ∃ x l, ns[pl + 1]? = some x ∧ runAt ns (pl + 2) = some (l, q) ∧ c = [[p, x], l]) ∨
  ((p = 2 ∨ p = 3 ∨ p = 10) ∧ ∃ x, ns[pl + 1]? = some x ∧ q = pl + 2 ∧ c = [[p, x]]) ∨
  ((p = 4 ∨ p = 5 ∨ p = 6 ∨ p = 7 ∨ p = 9) ∧ ∃ x y, ns[pl + 1]? = some x ∧ ns[pl + 2]? = some y ∧ q = pl + 3 ∧ c = [[p, x, y]]) ∨
  (p = 11 ∧ ∃ l m i, runAt ns (pl + 1) = some (l, i) ∧ runAt ns i = some (m, q) ∧ c = [[p], l, m]))
theorem shape_of {p : Int} {n k : Nat} (h : PyVapatd.shape p = some (n, k)) : ((p = 0 ∨ p = 8) ∧ n = 0 ∧ k = 1) ∨ (p = 1 ∧ n = 1 ∧ k = 1) ∨ ((p = 2 ∨ p = 3 ∨ p = 10) ∧ n = 1 ∧ k = 0) ∨
    ((p = 4 ∨ p = 5 ∨ p = 6 ∨ p = 7 ∨ p = 9) ∧ n = 2 ∧ k = 0) ∨ (p = 11 ∧ n = 0 ∧ k = 2) := by
  unfold PyVapatd.shape at h
  by_cases c : p = 0
  · rw [if_pos c] at h
    cases h
    exact .inl ⟨.inl c, rfl, rfl⟩
  rw [if_neg c] at h
  clear c
  by_cases c : p = 1
  · rw [if_pos c] at h
    cases h
    exact .inr (.inl ⟨c, rfl, rfl⟩)
  rw [if_neg c] at h
  clear c
  by_cases c : p = 2
  · rw [if_pos c] at h
    cases h
    exact .inr (.inr (.inl ⟨.inl c, rfl, rfl⟩))
  rw [if_neg c] at h
  clear c
  by_cases c : p = 3
  · rw [if_pos c] at h
    cases h
    exact .inr (.inr (.inl ⟨.inr (.inl c), rfl, rfl⟩))
  rw [if_neg c] at h
  clear c
  by_cases c : p = 4
  · rw [if_pos c] at h
    cases h
    exact .inr (.inr (.inr (.inl ⟨.inl c, rfl, rfl⟩)))
  rw [if_neg c] at h
  clear c
  by_cases c : p = 5
  · rw [if_pos c] at h
    cases h
    exact .inr (.inr (.inr (.inl ⟨.inr (.inl c), rfl, rfl⟩)))
  rw [if_neg c] at h
  clear c
  by_cases c : p = 6
  · rw [if_pos c] at h
    cases h
    exact .inr (.inr (.inr (.inl ⟨.inr (.inr (.inl c)), rfl, rfl⟩)))
  rw [if_neg c] at h
  clear c
  by_cases c : p = 7
  · rw [if_pos c] at h
    cases h
    exact .inr (.inr (.inr (.inl ⟨.inr (.inr (.inr (.inl c))), rfl, rfl⟩)))
  rw [if_neg c] at h
  clear c
  by_cases c : p = 8
  · rw [if_pos c] at h
    cases h
    exact .inl ⟨.inr c, rfl, rfl⟩
  rw [if_neg c] at h
  clear c
  by_cases c : p = 9
  · rw [if_pos c] at h
    cases h
    exact .inr (.inr (.inr (.inl ⟨.inr (.inr (.inr (.inr c))), rfl, rfl⟩)))
  rw [if_neg c] at h
  clear c
  by_cases c : p = 10
  · rw [if_pos c] at h
    cases h
    exact .inr (.inr (.inl ⟨.inr (.inr c), rfl, rfl⟩))
  rw [if_neg c] at h
  clear c
  by_cases c : p = 11
  · rw [if_pos c] at h
    cases h
    exact .inr (.inr (.inr (.inr ⟨c, rfl, rfl⟩)))
  rw [if_neg c] at h
  clear c
  cases h
theorem call_front {ns : List Int} {pl : Nat} {c : List (List Int)} {t : List Int} (h : PyFlat.call PyVapatd.shape (ns.drop pl) = some (c, t)) : ∃ q, Front ns pl c q ∧ t = ns.drop q ∧ pl < q ∧ q ≤ ns.length := by
  cases hp : ns[pl]? with
  | none =>
    have : ns.drop pl = [] := List.drop_eq_nil_of_le (List.getElem?_eq_none_iff.mp hp)
    rw [this] at h
    cases h
  | some p =>
    have hl : pl < ns.length := (List.getElem?_eq_some_iff.mp hp).1
    rw [drop_at hp, PyFlat.call] at h
    cases hs : PyVapatd.shape p with
    | none => rw [hs] at h; cases h
    | some nk =>
      obtain ⟨n, k⟩ := nk
      rw [hs] at h
      simp only at h
      split at h
      · cases h
      · next hn =>
        rw [List.length_drop] at hn
        rw [List.drop_drop] at h
        rcases shape_of hs with ⟨e, rfl, rfl⟩ | ⟨e, rfl, rfl⟩ | ⟨e, rfl, rfl⟩ | ⟨e, rfl, rfl⟩ | ⟨e, rfl, rfl⟩
        · rw [Nat.add_zero, rows_at] at h
          cases hr : runAt ns (pl + 1) with
          | none => rw [hr] at h; cases h
          | some u =>
            rw [hr, Option.bind_some, rows_0] at h
            obtain ⟨l, q⟩ := u
            cases h
            obtain ⟨m, _, h2, h3, _⟩ := runAt_ok hr
            exact ⟨q, ⟨p, hp, .inl ⟨e, l, hr, by simp⟩⟩, rfl, by omega, by omega⟩
        · obtain ⟨x, hx⟩ : ∃ x, ns[pl + 1]? = some x := ⟨_, List.getElem?_eq_getElem (by omega)⟩
          rw [show pl + 1 + 1 = pl + 2 from rfl, rows_at] at h
          cases hr : runAt ns (pl + 2) with
          | none => rw [hr] at h; cases h
          | some u =>
            rw [hr, Option.bind_some, rows_0, drop_at hx] at h
            obtain ⟨l, q⟩ := u
            cases h
            obtain ⟨m, _, h2, h3, _⟩ := runAt_ok hr
            exact ⟨q, ⟨p, hp, .inr (.inl ⟨e, x, l, hx, hr, by simp⟩)⟩, rfl, by omega, by omega⟩
        · obtain ⟨x, hx⟩ : ∃ x, ns[pl + 1]? = some x := ⟨_, List.getElem?_eq_getElem (by omega)⟩
          rw [rows_0, drop_at hx] at h
          cases h
          exact ⟨pl + 2, ⟨p, hp, .inr (.inr (.inl ⟨e, x, hx, rfl, by simp⟩))⟩, rfl, by omega, by omega⟩
        · obtain ⟨x, hx⟩ : ∃ x, ns[pl + 1]? = some x := ⟨_, List.getElem?_eq_getElem (by omega)⟩
          obtain ⟨y, hy⟩ : ∃ y, ns[pl + 1 + 1]? = some y := ⟨_, List.getElem?_eq_getElem (by omega)⟩
          rw [rows_0, drop_at hx, drop_at hy] at h
          cases h
          exact ⟨pl + 3, ⟨p, hp, .inr (.inr (.inr (.inl ⟨e, x, y, hx, hy, rfl, by simp⟩)))⟩, rfl, by omega, by omega⟩
        · rw [Nat.add_zero, rows_at] at h
          cases hr : runAt ns (pl + 1) with
          | none => rw [hr] at h; cases h
          | some u =>
            rw [hr, Option.bind_some, rows_at] at h
            obtain ⟨l, i⟩ := u
            cases hr2 : runAt ns i with
            | none => simp only [hr2] at h; cases h
            | some u2 =>
              simp only [hr2, Option.bind_some, rows_0] at h
              obtain ⟨m, q⟩ := u2
              cases h
              obtain ⟨m1, _, h2, h3, _⟩ := runAt_ok hr
              obtain ⟨m2, _, k2, k3, _⟩ := runAt_ok hr2
              exact ⟨q, ⟨p, hp, .inr (.inr (.inr (.inr ⟨e, l, m, i, hr, hr2, by simp⟩)))⟩, rfl, by omega, by omega⟩
/-- the calls from a place on -/
theorem calls_front {ns : List Int} {pl f : Nat} {cs : List (List (List Int))} (h : PyFlat.calls PyVapatd.shape f (ns.drop pl) = some cs) : (ns.length ≤ pl ∧ cs = []) ∨
    (pl < ns.length ∧ ∃ g c cs2 q, f = g + 1 ∧ cs = c :: cs2 ∧ Front ns pl c q ∧ pl < q ∧ q ≤ ns.length ∧ PyFlat.calls PyVapatd.shape g (ns.drop q) = some cs2) := by
  cases hp : ns[pl]? with
  | none =>
    have hn := List.getElem?_eq_none_iff.mp hp
    rw [List.drop_eq_nil_of_le hn] at h
    refine .inl ⟨hn, ?_⟩
    cases f <;> (rw [PyFlat.calls] at h; cases h; rfl)
  | some p =>
    have hl : pl < ns.length := (List.getElem?_eq_some_iff.mp hp).1
    refine .inr ⟨hl, ?_⟩
    have hd := drop_at hp
    cases f with
    | zero => rw [hd, PyFlat.calls] at h; cases h
    | succ g =>
      rw [hd, PyFlat.calls, ← hd] at h
      cases hc : PyFlat.call PyVapatd.shape (ns.drop pl) with
      | none => rw [hc] at h; cases h
      | some u =>
        obtain ⟨c, t⟩ := u
        obtain ⟨q, h1, h2, h3, h4⟩ := call_front hc
        rw [hc] at h
        simp only at h
        cases hs : PyFlat.calls PyVapatd.shape g t with
        | none => rw [hs] at h; cases h
        | some cs2 =>
          rw [hs] at h
          cases h
          exact ⟨g, c, cs2, q, rfl, rfl, h1, h3, h4, by rw [← h2]; exact hs⟩
/-- the same, by the call -/
def FrontK (ns : List Int) (pl : Nat) (k : Vapatd.Call) (q : Nat) : Prop := match k with
  | .tree l => ns[pl]? = some 0 ∧ runAt ns (pl + 1) = some (l, q)
  | .step x l => ns[pl]? = some 1 ∧ ns[pl + 1]? = some x ∧ runAt ns (pl + 2) = some (l, q)
  | .shown x => ns[pl]? = some 2 ∧ ns[pl + 1]? = some x ∧ q = pl + 2
  | .outcome x => ns[pl]? = some 3 ∧ ns[pl + 1]? = some x ∧ q = pl + 2
  | .merge x y => ns[pl]? = some 4 ∧ ns[pl + 1]? = some x ∧ ns[pl + 2]? = some y ∧ q = pl + 3
  | .sides x y => ns[pl]? = some 5 ∧ ns[pl + 1]? = some x ∧ ns[pl + 2]? = some y ∧ q = pl + 3
  | .conflicts x y => ns[pl]? = some 6 ∧ ns[pl + 1]? = some x ∧ ns[pl + 2]? = some y ∧ q = pl + 3
  | .clean x y => ns[pl]? = some 7 ∧ ns[pl + 1]? = some x ∧ ns[pl + 2]? = some y ∧ q = pl + 3
  | .all l => ns[pl]? = some 8 ∧ runAt ns (pl + 1) = some (l, q)
  | .pull x y => ns[pl]? = some 9 ∧ ns[pl + 1]? = some x ∧ ns[pl + 2]? = some y ∧ q = pl + 3
  | .drop x => ns[pl]? = some 10 ∧ ns[pl + 1]? = some x ∧ q = pl + 2
  | .two l m => ns[pl]? = some 11 ∧ ∃ i, runAt ns (pl + 1) = some (l, i) ∧ runAt ns i = some (m, q)
/-- the rows told to all are few -/
def FewK (k : Vapatd.Call) : Prop := ∀ l, k = .all l → l.length ≤ 10
theorem front_k {ns : List Int} {pl q : Nat} {c : List (List Int)} (h : Front ns pl c q) : ∃ k, FrontK ns pl k q ∧ (VapatdNeutral.asked1 (PyVapatd.whole c) = true → FewK k) ∧ ∀ s, VapatdNeutral.step s (PyVapatd.whole c) = Vapatd.step s k := by
  obtain ⟨p, hp, h⟩ := h
  rcases h with ⟨e, l, h1, rfl⟩ | ⟨rfl, x, l, h1, h2, rfl⟩ | ⟨e, x, h1, rfl, rfl⟩ | ⟨e, x, y, h1, h2, rfl, rfl⟩ | ⟨rfl, l, m, i, h1, h2, rfl⟩
  · rcases e with rfl | rfl
    · exact ⟨.tree l, ⟨hp, h1⟩, fun _ _ z => (by cases z), fun _ => rfl⟩
    · exact ⟨.all l, ⟨hp, h1⟩, fun ha m z => (by
      cases z
      have ha : VapatdNeutral.allWhole l 10 = true := ha
      unfold VapatdNeutral.allWhole at ha
      rw [Bool.and_eq_true] at ha
      exact of_decide_eq_true ha.2), fun _ => rfl⟩
  · exact ⟨.step x l, ⟨hp, h1, h2⟩, fun _ _ z => (by cases z), fun _ => rfl⟩
  · rcases e with rfl | rfl | rfl
    · exact ⟨.shown x, ⟨hp, h1, rfl⟩, fun _ _ z => (by cases z), fun _ => rfl⟩
    · exact ⟨.outcome x, ⟨hp, h1, rfl⟩, fun _ _ z => (by cases z), fun _ => rfl⟩
    · exact ⟨.drop x, ⟨hp, h1, rfl⟩, fun _ _ z => (by cases z), fun _ => rfl⟩
  · rcases e with rfl | rfl | rfl | rfl | rfl
    · exact ⟨.merge x y, ⟨hp, h1, h2, rfl⟩, fun _ _ z => (by cases z), fun _ => rfl⟩
    · exact ⟨.sides x y, ⟨hp, h1, h2, rfl⟩, fun _ _ z => (by cases z), fun _ => rfl⟩
    · exact ⟨.conflicts x y, ⟨hp, h1, h2, rfl⟩, fun _ _ z => (by cases z), fun _ => rfl⟩
    · exact ⟨.clean x y, ⟨hp, h1, h2, rfl⟩, fun _ _ z => (by cases z), fun _ => rfl⟩
    · exact ⟨.pull x y, ⟨hp, h1, h2, rfl⟩, fun _ _ z => (by cases z), fun _ => rfl⟩
  · exact ⟨.two l m, ⟨hp, i, h1, h2⟩, fun _ _ z => (by cases z), fun _ => rfl⟩
/-- what is still to be told from a place on, the object being s -/
def Tell (ns : List Int) (pl : Nat) (s : Vapatd.State) (out : List Int) : Prop := ∃ f cs, PyFlat.calls PyVapatd.shape f (ns.drop pl) = some cs ∧ out = PyFlat.told (PyFlat.played VapatdNeutral.step s (cs.map PyVapatd.whole)) ∧ (cs.map PyVapatd.whole).all VapatdNeutral.asked1 = true
theorem tell_start {ns : List Int} (h : PyVapatd.answers_asked ns = true) : Tell ns 0 Vapatd.start (PyVapatd.answers ns) ∧ (PyVapatd.answers ns).length ≤ 10000000 := by
  unfold PyVapatd.answers_asked at h
  cases e : PyFlat.calls PyVapatd.shape ns.length ns with
  | none => rw [e] at h; cases h
  | some raw =>
    rw [e] at h
    simp only [Bool.and_eq_true] at h
    have hs := h.2
    have hq := h.1.2
    unfold VapatdNeutral.asked at hq
    rw [Bool.and_eq_true] at hq
    refine ⟨⟨ns.length, raw, e, ?_, hq.1⟩, of_decide_eq_true hs⟩
    unfold PyVapatd.answers PyVapatd.calls
    rw [e]
    rfl
theorem tell_next {ns : List Int} {pl : Nat} {s : Vapatd.State} {out : List Int} (h : Tell ns pl s out) : (ns.length ≤ pl ∧ out = []) ∨
    (pl < ns.length ∧ ∃ k q rest, FrontK ns pl k q ∧ FewK k ∧ pl < q ∧ q ≤ ns.length ∧ Tell ns q (Vapatd.step s k).1 rest ∧ out = ((Vapatd.step s k).2.length : Int) :: ((Vapatd.step s k).2 ++ rest)) := by
  obtain ⟨f, cs, hc, rfl, ha⟩ := h
  rcases calls_front hc with ⟨hl, rfl⟩ | ⟨hl, g, c, cs2, q, rfl, rfl, hf, h1, h2, h3⟩
  · exact .inl ⟨hl, rfl⟩
  · obtain ⟨k, hk, hfew, hs⟩ := front_k hf
    rw [List.map_cons, List.all_cons, Bool.and_eq_true] at ha
    refine .inr ⟨hl, k, q, _, hk, hfew ha.1, h1, h2, ⟨g, cs2, h3, rfl, ha.2⟩, ?_⟩
    rw [List.map_cons, PyFlat.played, hs, PyFlat.told, List.flatMap_cons]
    rfl
end Rw
end
section
set_option autoImplicit false
namespace Rw
open VapatBase (Step Tokens Tree turned turnedAll appliedAll commuted)
open Vapatb (behind without needs needsFrom)
open Vapatd (blockFrom blockOf conflict leftOut1 leftOut2 withoutAll rowsMerged allConflicts once allMerged)
/-! ### a step brought behind a row, turn by turn -/
def bh (p : Step) (l : List Step) : Option (List Step × Step) := match behind p l with
  | .ok r => some r
  | .error _ => none
theorem bh_ok {p : Step} {l : List Step} {r : List Step × Step} : bh p l = some r ↔ behind p l = .ok r := by
  unfold bh
  cases behind p l <;> simp
theorem bh_no {p : Step} {l : List Step} : bh p l = none ↔ ∃ n, behind p l = .error n := by
  unfold bh
  cases behind p l <;> simp
theorem bh_nil (p : Step) : bh p [] = some ([], p) := rfl
theorem bh_cons (p q : Step) (l : List Step) : bh p (q :: l) = (commuted p q).bind fun r => (bh r.2 l).map fun z => (r.1 :: z.1, z.2) := by
  unfold bh
  rw [behind]
  cases commuted p q with
  | none => rfl
  | some r =>
    simp only [Option.bind_some]
    cases behind r.2 l <;> rfl
theorem bh_app : ∀ (a b : List Step) (p : Step), bh p (a ++ b) = (bh p a).bind fun r => (bh r.2 b).map fun z => (r.1 ++ z.1, z.2)
  | [], b, p => by
    rw [bh_nil, Option.bind_some, List.nil_append]
    cases bh p b <;> rfl
  | q :: a, b, p => by
    rw [List.cons_append, bh_cons, bh_cons]
    cases commuted p q with
    | none => rfl
    | some r =>
      simp only [Option.bind_some]
      rw [bh_app a b r.2]
      cases bh r.2 a with
      | none => rfl
      | some z =>
        simp only [Option.bind_some, Option.map_some]
        cases bh z.2 b <;> rfl
theorem bh_one (p q : Step) : bh p [q] = (commuted p q).map fun r => ([r.1], r.2) := by
  rw [bh_cons]
  cases commuted p q <;> rfl
theorem take_plus {α : Type} {l : List α} {i : Nat} {x : α} (h : l[i]? = some x) : l.take (i + 1) = l.take i ++ [x] := by
  rw [List.take_add_one, h]
  rfl
theorem bh_go {l l1 : List Step} {i : Nat} {p p1 q : Step} {r : Step × Step} (h : bh p (l.take i) = some (l1, p1)) (hq : l[i]? = some q) (e : commuted p1 q = some r) : bh p (l.take (i + 1)) = some (l1 ++ [r.1], r.2) := by
  rw [take_plus hq, bh_app, h, Option.bind_some, bh_one, e]
  rfl
theorem bh_stop {l l1 : List Step} {i : Nat} {p p1 q : Step} (h : bh p (l.take i) = some (l1, p1)) (hq : l[i]? = some q) (e : commuted p1 q = none) : bh p l = none := by
  have k : l = l.take (i + 1) ++ l.drop (i + 1) := (List.take_append_drop _ _).symm
  rw [k, bh_app, take_plus hq, bh_app, h, Option.bind_some, bh_one, e]
  rfl
theorem bh_len {l l1 : List Step} {p p1 : Step} (h : bh p l = some (l1, p1)) : l1.length = l.length := (MR_len_right (behind_ok (bh_ok.mp h))).symm

/-! ### a block, turn by turn -/
/-- the first j steps of the row are still to be looked at -/
def BK (row : List Step) (i : Nat) (s : List Step) (k : List Nat) (j : Nat) : Prop :=
  blockFrom (row.take j).reverse s = blockOf row i ∧ needsFrom (row.take j).zipIdx.reverse s k = needs row i
theorem bk_start {row : List Step} {i : Nat} {q : Step} (h : row[i]? = some q) : BK row i [q] [] i := by
  unfold BK blockOf needs
  rw [h]
  exact ⟨rfl, rfl⟩
theorem zip_snoc {row : List Step} {j : Nat} {x : Step} (h : row[j]? = some x) : (row.take (j + 1)).zipIdx.reverse = (x, j) :: (row.take j).zipIdx.reverse := by
  have hl : (row.take j).length = j := by
    have := (List.getElem?_eq_some_iff.mp h).1
    rw [List.length_take]
    omega
  rw [take_plus h, List.zipIdx_append, List.reverse_append, hl]
  simp
theorem bk_go {row s : List Step} {i j : Nat} {k : List Nat} {x : Step} {r : List Step × Step} (h : BK row i s k (j + 1)) (hx : row[j]? = some x) (e : bh x s = some r) : BK row i r.1 k j := by
  obtain ⟨h1, h2⟩ := h
  have e := bh_ok.mp e
  rw [take_plus hx, List.reverse_append] at h1
  rw [zip_snoc hx] at h2
  refine ⟨?_, ?_⟩
  · rw [← h1]
    show _ = blockFrom (x :: (row.take j).reverse) s
    rw [blockFrom, e]
  · rw [← h2, needsFrom]
    simp only [e]
theorem bk_stay {row s : List Step} {i j : Nat} {k : List Nat} {x : Step} (h : BK row i s k (j + 1)) (hx : row[j]? = some x) (e : bh x s = none) : BK row i (x :: s) (j :: k) j := by
  obtain ⟨h1, h2⟩ := h
  obtain ⟨n, e⟩ := bh_no.mp e
  rw [take_plus hx, List.reverse_append] at h1
  rw [zip_snoc hx] at h2
  refine ⟨?_, ?_⟩
  · rw [← h1]
    show _ = blockFrom (x :: (row.take j).reverse) s
    rw [blockFrom, e]
  · rw [← h2, needsFrom]
    simp only [e]
theorem bk_end {row s : List Step} {i : Nat} {k : List Nat} (h : BK row i s k 0) : s = blockOf row i ∧ k = needs row i := ⟨h.1, h.2⟩

theorem blockFrom_len : ∀ (l b : List Step), (blockFrom l b).length ≤ l.length + b.length
  | [], b => by simp [blockFrom]
  | x :: l, b => by
    cases e : behind x b with
    | ok r =>
      obtain ⟨b', p2⟩ := r
      rw [blockFrom_ok e]
      have h1 := blockFrom_len l b'
      have h2 := MR_len_right (behind_ok e)
      rw [List.length_cons]
      omega
    | error n =>
      rw [blockFrom_error e]
      have h1 := blockFrom_len l (x :: b)
      rw [List.length_cons] at h1 ⊢
      omega
theorem blockOf_len (row : List Step) (i : Nat) : (blockOf row i).length ≤ row.length + 1 := by
  unfold blockOf
  cases row[i]? with
  | none => exact Nat.zero_le _
  | some q =>
    have h := blockFrom_len (row.take i).reverse [q]
    rw [List.length_reverse, List.length_take, List.length_singleton] at h
    show (blockFrom (row.take i).reverse [q]).length ≤ _
    omega

/-! ### the pairs that conflict -/
def confRow (a b : List Step) (i n : Nat) : List (Nat × Nat) := ((List.range n).filter (conflict a b i)).map fun j => (i, j)
def confTo (a b : List Step) (n : Nat) : List (Nat × Nat) := (List.range n).flatMap fun i => confRow a b i b.length
theorem conf_all (a b : List Step) : confTo a b a.length = allConflicts a b := rfl
theorem confTo_more (a b : List Step) (n : Nat) : confTo a b (n + 1) = confTo a b n ++ confRow a b n b.length := by
  unfold confTo
  rw [List.range_succ, List.flatMap_append]
  simp
theorem confRow_yes {a b : List Step} {i n : Nat} (h : conflict a b i n = true) : confRow a b i (n + 1) = confRow a b i n ++ [(i, n)] := by
  unfold confRow
  rw [List.range_succ, List.filter_append, List.map_append]
  simp [h]
theorem confRow_no {a b : List Step} {i n : Nat} (h : conflict a b i n = false) : confRow a b i (n + 1) = confRow a b i n := by
  unfold confRow
  rw [List.range_succ, List.filter_append, List.map_append]
  simp [h]
theorem mem_conf {a b : List Step} {x : Nat × Nat} : x ∈ allConflicts a b ↔ x.1 < a.length ∧ x.2 < b.length ∧ conflict a b x.1 x.2 = true := by
  unfold allConflicts
  rw [List.mem_flatMap]
  constructor
  · rintro ⟨i, hi, h⟩
    obtain ⟨j, hj, rfl⟩ := List.mem_map.mp h
    obtain ⟨h1, h2⟩ := List.mem_filter.mp hj
    exact ⟨List.mem_range.mp hi, List.mem_range.mp h1, h2⟩
  · rintro ⟨h1, h2, h3⟩
    exact ⟨x.1, List.mem_range.mpr h1, List.mem_map.mpr ⟨x.2, List.mem_filter.mpr ⟨List.mem_range.mpr h2, h3⟩, rfl⟩⟩
theorem conf_nodup (a b : List Step) : (allConflicts a b).Nodup := by
  unfold allConflicts
  refine List.pairwise_flatMap.mpr ⟨fun i _ => ?_, ?_⟩
  · refine List.pairwise_map.mpr ?_
    have h : ((List.range b.length).filter (conflict a b i)).Nodup := List.Pairwise.filter _ List.nodup_range
    exact h.imp fun n e => n (Prod.mk.inj e).2
  · have h : (List.range a.length).Nodup := List.nodup_range
    refine h.imp fun n x hx y hy e => ?_
    obtain ⟨_, _, rfl⟩ := List.mem_map.mp hx
    obtain ⟨_, _, rfl⟩ := List.mem_map.mp hy
    exact n (Prod.mk.inj e).1
theorem conf_len (a b : List Step) : (allConflicts a b).length ≤ a.length * b.length := by
  have h : ∀ n, (confTo a b n).length ≤ n * b.length := by
    intro n
    induction n with
    | zero => simp [confTo]
    | succ n ih =>
      rw [confTo_more, List.length_append, Nat.succ_mul]
      have : (confRow a b n b.length).length ≤ b.length := by
        unfold confRow
        rw [List.length_map]
        exact Nat.le_trans (List.length_filter_le _ _) (by simp)
      omega
  exact h a.length
/-- the one of a list that keeps a test is the only one -/
theorem only_one {α : Type} [BEq α] [LawfulBEq α] {l : List α} {x : α} {P : α → Bool} (hn : l.Nodup) (hx : x ∈ l) (hp : P x = true) :
    ((l.filter P).length = 1) ↔ ((l.any fun y => y != x && P y) = false) := by
  obtain ⟨as, bs, rfl⟩ := List.append_of_mem hx
  have hn2 := List.nodup_append.mp hn
  have h1 : ∀ y ∈ as, y ≠ x := fun y hy => hn2.2.2 y hy x List.mem_cons_self
  have h2 : ∀ y ∈ bs, y ≠ x := fun y hy e => (List.nodup_cons.mp hn2.2.1).1 (by rw [← e]; exact hy)
  have len : ((as ++ x :: bs).filter P).length = (as.filter P).length + 1 + (bs.filter P).length := by
    rw [List.filter_append, List.filter_cons, if_pos hp, List.length_append, List.length_cons]
    omega
  rw [len]
  constructor
  · intro h
    have e1 : as.filter P = [] := List.length_eq_zero_iff.mp (by omega)
    have e2 : bs.filter P = [] := List.length_eq_zero_iff.mp (by omega)
    rw [List.any_eq_false]
    intro y hy
    rcases List.mem_append.mp hy with hy | hy
    · have := List.filter_eq_nil_iff.mp e1 y hy
      simp [this]
    · rcases List.mem_cons.mp hy with rfl | hy
      · simp
      · have := List.filter_eq_nil_iff.mp e2 y hy
        simp [this]
  · intro h
    rw [List.any_eq_false] at h
    have e1 : as.filter P = [] := List.filter_eq_nil_iff.mpr fun y hy hP => h y (List.mem_append_left _ hy) (by simp [h1 y hy, hP])
    have e2 : bs.filter P = [] := List.filter_eq_nil_iff.mpr fun y hy hP => h y (List.mem_append_right _ (List.mem_cons_of_mem _ hy)) (by simp [h2 y hy, hP])
    rw [e1, e2]
    rfl
/-- of these two places both steps need -/
def inBoth (a b : List Step) (x y : Nat × Nat) : Bool := (x.1 :: needs a x.1).contains y.1 && (x.2 :: needs b x.2).contains y.2
theorem na_at (a : List Step) {i : Nat} (h : i < a.length) : ((((List.range a.length).map fun i => i :: needs a i)[i]?).getD []) = i :: needs a i := by
  rw [List.getElem?_map, List.getElem?_range h]
  rfl
theorem firsts_eq (a b : List Step) : Vapatd.conflicts a b = (allConflicts a b).filter fun x => decide (((allConflicts a b).filter (inBoth a b x)).length = 1) := by
  unfold Vapatd.conflicts
  apply List.filter_congr
  intro x hx
  obtain ⟨h1, h2, _⟩ := mem_conf.mp hx
  rw [na_at a h1, na_at b h2]
  have o := only_one (P := inBoth a b x) (conf_nodup a b) hx (by simp [inBoth])
  show (!((allConflicts a b).any fun y => y != x && inBoth a b x y)) = _
  cases e : ((allConflicts a b).any fun y => y != x && inBoth a b x y) with
  | false => rw [decide_eq_true (o.mpr e)]; rfl
  | true => rw [decide_eq_false (fun z => by rw [o.mp z] at e; cases e)]; rfl

/-! ### the steps that conflict -/
theorem mem_left1 {a b : List Step} {i : Nat} : i ∈ leftOut1 a b ↔ ∃ j, (i, j) ∈ allConflicts a b := by
  unfold leftOut1
  rw [List.mem_filter, List.any_eq_true, List.mem_range]
  constructor
  · rintro ⟨h1, j, h2, h3⟩
    exact ⟨j, mem_conf.mpr ⟨h1, List.mem_range.mp h2, h3⟩⟩
  · rintro ⟨j, h⟩
    obtain ⟨h1, h2, h3⟩ := mem_conf.mp h
    exact ⟨h1, j, List.mem_range.mpr h2, h3⟩
theorem mem_left2 {a b : List Step} {j : Nat} : j ∈ leftOut2 a b ↔ ∃ i, (i, j) ∈ allConflicts a b := by
  unfold leftOut2
  rw [List.mem_filter, List.any_eq_true, List.mem_range]
  constructor
  · rintro ⟨h1, i, h2, h3⟩
    exact ⟨i, mem_conf.mpr ⟨List.mem_range.mp h2, h1, h3⟩⟩
  · rintro ⟨i, h⟩
    obtain ⟨h1, h2, h3⟩ := mem_conf.mp h
    exact ⟨h2, i, List.mem_range.mpr h1, h3⟩
theorem left1_rise (a b : List Step) : (leftOut1 a b).Pairwise (· < ·) := List.Pairwise.filter _ List.pairwise_lt_range
theorem left2_rise (a b : List Step) : (leftOut2 a b).Pairwise (· < ·) := List.Pairwise.filter _ List.pairwise_lt_range
theorem left1_lt {a b : List Step} {i : Nat} (h : i ∈ leftOut1 a b) : i < a.length := by
  obtain ⟨j, h⟩ := mem_left1.mp h
  exact (mem_conf.mp h).1
theorem left2_lt {a b : List Step} {i : Nat} (h : i ∈ leftOut2 a b) : i < b.length := by
  obtain ⟨j, h⟩ := mem_left2.mp h
  exact (mem_conf.mp h).2.1
theorem left1_len (a b : List Step) : (leftOut1 a b).length ≤ a.length := Nat.le_trans (List.length_filter_le _ _) (by simp)
theorem left2_len (a b : List Step) : (leftOut2 a b).length ≤ b.length := Nat.le_trans (List.length_filter_le _ _) (by simp)
theorem rise_ext : ∀ {xs ys : List Int}, xs.Pairwise (· < ·) → ys.Pairwise (· < ·) → (∀ k, k ∈ xs ↔ k ∈ ys) → xs = ys
  | [], [], _, _, _ => rfl
  | [], y :: _, _, _, h => by have := (h y).mpr List.mem_cons_self; cases this
  | x :: _, [], _, _, h => by have := (h x).mp List.mem_cons_self; cases this
  | x :: xs, y :: ys, hx, hy, h => by
    have px := List.pairwise_cons.mp hx
    have py := List.pairwise_cons.mp hy
    have e : x = y := by
      rcases List.mem_cons.mp ((h x).mp List.mem_cons_self) with e | e
      · exact e
      · rcases List.mem_cons.mp ((h y).mpr List.mem_cons_self) with e2 | e2
        · exact e2.symm
        · have := py.1 x e
          have := px.1 y e2
          omega
    subst e
    rw [rise_ext px.2 py.2 fun k => ⟨fun hk => ?_, fun hk => ?_⟩]
    · rcases List.mem_cons.mp ((h k).mp (List.mem_cons_of_mem _ hk)) with e | e
      · have := px.1 k hk; omega
      · exact e
    · rcases List.mem_cons.mp ((h k).mpr (List.mem_cons_of_mem _ hk)) with e | e
      · have := py.1 k hk; omega
      · exact e
theorem rise_int {l : List Nat} (h : l.Pairwise (· < ·)) : (l.map fun (n : Nat) => (n : Int)).Pairwise (· < ·) := by
  refine List.pairwise_map.mpr (h.imp fun h => ?_)
  omega
/-- what strictly rises and holds the first numbers of the pairs -/
theorem left1_told {a b : List Step} {ns : List Int} (h : ns.Pairwise (· < ·)) (m : ∀ k : Int, k ∈ ns ↔ k ∈ (allConflicts a b).map fun x => (x.1 : Int)) : ns = (leftOut1 a b).map fun (n : Nat) => (n : Int) := by
  refine rise_ext h (rise_int (left1_rise a b)) fun k => ?_
  rw [m k, List.mem_map, List.mem_map]
  constructor
  · rintro ⟨x, hx, rfl⟩
    exact ⟨x.1, mem_left1.mpr ⟨x.2, hx⟩, rfl⟩
  · rintro ⟨i, hi, rfl⟩
    obtain ⟨j, hj⟩ := mem_left1.mp hi
    exact ⟨_, hj, rfl⟩
theorem left2_told {a b : List Step} {ns : List Int} (h : ns.Pairwise (· < ·)) (m : ∀ k : Int, k ∈ ns ↔ k ∈ (allConflicts a b).map fun x => (x.2 : Int)) : ns = (leftOut2 a b).map fun (n : Nat) => (n : Int) := by
  refine rise_ext h (rise_int (left2_rise a b)) fun k => ?_
  rw [m k, List.mem_map, List.mem_map]
  constructor
  · rintro ⟨x, hx, rfl⟩
    exact ⟨x.2, mem_left2.mpr ⟨x.1, hx⟩, rfl⟩
  · rintro ⟨i, hi, rfl⟩
    obtain ⟨j, hj⟩ := mem_left2.mp hi
    exact ⟨_, hj, rfl⟩

/-! ### lists without a number twice -/
theorem nodup_few {α : Type} [DecidableEq α] : ∀ {L ns : List α}, L.Nodup → (∀ x ∈ L, x ∈ ns) → L.length ≤ ns.length
  | [], _, _, _ => Nat.zero_le _
  | x :: L, ns, hn, h => by
    obtain ⟨as, bs, rfl⟩ := List.append_of_mem (h x List.mem_cons_self)
    have hn := List.nodup_cons.mp hn
    have := nodup_few (L := L) (ns := as ++ bs) hn.2 fun y hy => by
      have hy2 := h y (List.mem_cons_of_mem _ hy)
      rcases List.mem_append.mp hy2 with k | k
      · exact List.mem_append_left _ k
      · rcases List.mem_cons.mp k with e | k
        · exact absurd (by rw [← e]; exact hy) hn.1
        · exact List.mem_append_right _ k
    rw [List.length_append] at this
    rw [List.length_append, List.length_cons, List.length_cons]
    omega
theorem dup_out {α : Type} [DecidableEq α] : ∀ {ns : List α}, ¬ ns.Nodup → ∃ as x bs, ns = as ++ x :: bs ∧ x ∈ as ++ bs
  | [], h => absurd List.nodup_nil h
  | x :: ns, h => by
    by_cases hx : x ∈ ns
    · exact ⟨[], x, ns, rfl, hx⟩
    · obtain ⟨as, y, bs, rfl, hy⟩ := dup_out (ns := ns) fun k => h (List.nodup_cons.mpr ⟨hx, k⟩)
      exact ⟨x :: as, y, bs, rfl, List.mem_cons_of_mem _ hy⟩
/-- fewer unlike ones than there are: one stands there twice -/
theorem few_iff {α : Type} [DecidableEq α] {L ns : List α} (hn : L.Nodup) (h : ∀ x, x ∈ L ↔ x ∈ ns) : L.length < ns.length ↔ ¬ ns.Nodup := by
  constructor
  · intro k d
    have := nodup_few d fun x hx => (h x).mpr hx
    omega
  · intro k
    obtain ⟨as, x, bs, rfl, hx⟩ := dup_out k
    have := nodup_few (ns := as ++ bs) hn fun y hy => by
      have hy2 := (h y).mp hy
      rcases List.mem_append.mp hy2 with k | k
      · exact List.mem_append_left _ k
      · rcases List.mem_cons.mp k with e | k
        · rw [e]; exact hx
        · exact List.mem_append_right _ k
    rw [List.length_append] at this
    rw [List.length_append, List.length_cons]
    omega
theorem onceK : ∀ (l k : List Nat), (l.foldl (fun k x => if k.contains x then k else k ++ [x]) k).length ≤ k.length + l.length ∧
    ((l.foldl (fun k x => if k.contains x then k else k ++ [x]) k).length = k.length + l.length ↔ (l.Nodup ∧ ∀ y ∈ l, y ∉ k))
  | [], k => by simp
  | x :: l, k => by
    rw [List.foldl_cons, List.length_cons]
    by_cases hx : x ∈ k
    · rw [if_pos (by simpa using hx)]
      obtain ⟨h1, h2⟩ := onceK l k
      refine ⟨by omega, ⟨fun e => by omega, fun h => absurd hx (h.2 x List.mem_cons_self)⟩⟩
    · rw [if_neg (by simpa using hx)]
      obtain ⟨h1, h2⟩ := onceK l (k ++ [x])
      rw [List.length_append, List.length_singleton] at h1 h2
      refine ⟨by omega, ?_⟩
      have e : (l.foldl (fun k x => if k.contains x then k else k ++ [x]) (k ++ [x])).length = k.length + (l.length + 1) ↔ (l.foldl (fun k x => if k.contains x then k else k ++ [x]) (k ++ [x])).length = k.length + 1 + l.length := by omega
      rw [e, h2, List.nodup_cons]
      constructor
      · rintro ⟨d, h⟩
        refine ⟨⟨fun z => h x z (by simp), d⟩, fun y hy => ?_⟩
        rcases List.mem_cons.mp hy with rfl | hy
        · exact hx
        · exact fun z => h y hy (List.mem_append_left _ z)
      · rintro ⟨⟨n, d⟩, h⟩
        refine ⟨d, fun y hy z => ?_⟩
        rcases List.mem_append.mp z with z | z
        · exact h y (List.mem_cons_of_mem _ hy) z
        · rw [List.mem_singleton.mp z] at hy
          exact n hy
theorem once_iff (l : List Nat) : (once l).length = l.length ↔ l.Nodup := by
  have h := (onceK l []).2
  rw [List.length_nil, Nat.zero_add] at h
  unfold once
  rw [h]
  simp
theorem nodup_int {l : List Nat} : (l.map fun (n : Nat) => (n : Int)).Nodup ↔ l.Nodup := by
  unfold List.Nodup
  rw [List.pairwise_map]
  constructor
  · intro h
    exact h.imp fun n e => n (by rw [e])
  · intro h
    exact h.imp fun n e => n (by omega)

/-! ### steps taken out, turn by turn -/
theorem without_split {row m : List Step} {i : Nat} (hi : i < row.length) (h : without row i = .ok m) : ∃ p r, row[i]? = some p ∧ bh p (row.drop (i + 1)) = some r ∧ m = row.take i ++ r.1 := by
  unfold without at h
  rw [List.drop_eq_getElem_cons hi] at h
  simp only at h
  cases e : behind row[i] (row.drop (i + 1)) with
  | error n => rw [e] at h; cases h
  | ok r =>
    rw [e] at h
    have h : row.take i ++ r.1 = m := by cases h; rfl
    exact ⟨_, r, List.getElem?_eq_getElem hi, bh_ok.mpr e, h.symm⟩
theorem without_len {row m : List Step} {i : Nat} (hi : i < row.length) (h : without row i = .ok m) : m.length + 1 = row.length := by
  obtain ⟨p, r, _, h2, rfl⟩ := without_split hi h
  have := bh_len (l1 := r.1) (p1 := r.2) h2
  rw [List.length_drop] at this
  rw [List.length_append, List.length_take, this]
  omega
/-- places fall, the first one within the row -/
def Falls (n : Nat) (l : List Nat) : Prop := l.Pairwise (fun x y => y < x) ∧ ∀ x ∈ l, x < n
theorem falls_of {n : Nat} {l : List Nat} (h : l.Pairwise (· < ·)) (h2 : ∀ x ∈ l, x < n) : Falls n l.reverse := ⟨List.pairwise_reverse.mpr h, fun x hx => h2 x (List.mem_reverse.mp hx)⟩
theorem falls_next {n x : Nat} {l : List Nat} (h : Falls (n + 1) (x :: l)) : Falls n l := by
  obtain ⟨h1, h2⟩ := h
  have h1 := List.pairwise_cons.mp h1
  refine ⟨h1.2, fun y hy => ?_⟩
  have := h1.1 y hy
  have := h2 x List.mem_cons_self
  omega
theorem outs_cons {a m : List Step} {x : Nat} {l : List Nat} (h : Outs a (x :: l) m) (f : Falls a.length (x :: l)) : ∃ p r, a[x]? = some p ∧ bh p (a.drop (x + 1)) = some r ∧ Outs (a.take x ++ r.1) l m ∧ Falls (a.take x ++ r.1).length l ∧ (a.take x ++ r.1).length ≤ a.length := by
  cases h with
  | cons e k =>
    have hx := f.2 x List.mem_cons_self
    have hl := without_len hx e
    obtain ⟨p, r, h1, h2, rfl⟩ := without_split hx e
    refine ⟨p, r, h1, h2, k, ?_, by omega⟩
    rw [← hl] at f
    exact falls_next f
theorem outs_nil {a m : List Step} (h : Outs a [] m) : m = a := by
  cases h
  rfl
theorem outs_len {a m : List Step} {l : List Nat} (h : Outs a l m) : Falls a.length l → m.length ≤ a.length := by
  induction h with
  | nil => intro _; exact Nat.le_refl _
  | cons e _ ih =>
    intro f
    have hl := without_len (f.2 _ List.mem_cons_self) e
    rw [← hl] at f
    have := ih (falls_next f)
    omega
/-- what is left of two rows, and what comes of it -/
theorem clean_told {t u v : Tree} {a b : List Step} (hr : Rise t) (ha : appliedAll t a = some u) (hb : appliedAll t b = some v) :
    ∃ a0 b0 x u0 w, Outs a (leftOut1 a b).reverse a0 ∧ Outs b (leftOut2 a b).reverse b0 ∧ rowsMerged a0 b0 = some x ∧ Vapatd.clean a b = some (a0 ++ x.1) ∧ appliedAll t a0 = some u0 ∧ appliedAll u0 x.1 = some w := by
  obtain ⟨a0, b0, o1, o2, b1, a1, hm⟩ := clean_merges a b
  obtain ⟨u0, h1⟩ := Outs_applies o1 hr ha
  obtain ⟨v0, h2⟩ := Outs_applies o2 hr hb
  obtain ⟨w, hw, _⟩ := MR_diamond hm hr h1 h2
  have e := (rowsMerged_iff a0 b0 b1 a1).mpr hm
  refine ⟨a0, b0, (b1, a1), u0, w, o1, o2, e, ?_, h1, hw⟩
  unfold Vapatd.clean
  simp only [Outs_all o1, Outs_all o2, e, Option.map_some]

/-! ### rows merged one after the other -/
theorem all_no {rs : List (List Step)} {l r : List Step} {i : Nat} (hr : rs[i]? = some r) (e : rowsMerged l r = none) : allMerged (rs.drop i) l i = .error i := by
  rw [List.drop_eq_getElem_cons (List.getElem?_eq_some_iff.mp hr).1, (List.getElem?_eq_some_iff.mp hr).2, allMerged, e]
theorem all_go {rs : List (List Step)} {l r : List Step} {i : Nat} {x : List Step × List Step} (hr : rs[i]? = some r) (e : rowsMerged l r = some x) : allMerged (rs.drop i) l i = allMerged (rs.drop (i + 1)) (l ++ x.1) (i + 1) := by
  rw [List.drop_eq_getElem_cons (List.getElem?_eq_some_iff.mp hr).1, (List.getElem?_eq_some_iff.mp hr).2, allMerged, e]
theorem all_end {rs : List (List Step)} {l : List Step} : allMerged (rs.drop rs.length) l rs.length = .ok l := by
  rw [List.drop_length, allMerged]
end Rw
end
section
set_option Elab.async false
set_option linter.all false
set_option maxRecDepth 100000
set_option maxHeartbeats 0
namespace Rw
open PySem PySem.Spec PyProof.Rows L2
abbrev RR : PySem.W.OpenSpec := PySem.Challenge.rw_rowsmerged_s01_answers
def top (i : Nat) : Stmt := PySem.Challenge.pw_rowsmerged_s01_answers.main.body.getD i (.Pass ⟨0, 0, 0, 0⟩)
abbrev s_is_name : Stmt := top 3
abbrev s_are_tokens : Stmt := top 4
abbrev s_tokens_at : Stmt := top 5
abbrev s_with_file : Stmt := top 14
abbrev s_without_file : Stmt := top 15
abbrev s_Hunk_init : Stmt := inClass (top 16) 0
abbrev s_Hunk_names : Stmt := inClass (top 16) 1
abbrev s_Hunk_told : Stmt := inClass (top 16) 2
abbrev s_Hunk_turned : Stmt := inClass (top 16) 3
abbrev s_Hunk_inside : Stmt := inClass (top 16) 4
abbrev s_Hunk_standing_at : Stmt := inClass (top 16) 5
abbrev s_Hunk_swapped : Stmt := inClass (top 16) 6
abbrev s_Hunk_fits : Stmt := inClass (top 16) 7
abbrev s_Hunk_applied : Stmt := inClass (top 16) 8
abbrev s_Swap_init : Stmt := inClass (top 17) 0
abbrev s_Swap_names : Stmt := inClass (top 17) 1
abbrev s_Swap_tokens : Stmt := inClass (top 17) 2
abbrev s_Swap_told : Stmt := inClass (top 17) 3
abbrev s_Swap_turned : Stmt := inClass (top 17) 4
abbrev s_Swap_inside : Stmt := inClass (top 17) 5
abbrev s_Swap_swapped_in : Stmt := inClass (top 17) 6
abbrev s_Swap_fits : Stmt := inClass (top 17) 7
abbrev s_Swap_applied : Stmt := inClass (top 17) 8
abbrev s_Added_init : Stmt := inClass (top 18) 0
abbrev s_Added_names : Stmt := inClass (top 18) 1
abbrev s_Added_told : Stmt := inClass (top 18) 2
abbrev s_Added_turned : Stmt := inClass (top 18) 3
abbrev s_Added_fits : Stmt := inClass (top 18) 4
abbrev s_Added_applied : Stmt := inClass (top 18) 5
abbrev s_Removed_init : Stmt := inClass (top 19) 0
abbrev s_Removed_names : Stmt := inClass (top 19) 1
abbrev s_Removed_told : Stmt := inClass (top 19) 2
abbrev s_Removed_turned : Stmt := inClass (top 19) 3
abbrev s_Removed_fits : Stmt := inClass (top 19) 4
abbrev s_Removed_applied : Stmt := inClass (top 19) 5
abbrev s_Moved_init : Stmt := inClass (top 20) 0
abbrev s_Moved_names : Stmt := inClass (top 20) 1
abbrev s_Moved_told : Stmt := inClass (top 20) 2
abbrev s_Moved_turned : Stmt := inClass (top 20) 3
abbrev s_Moved_fits : Stmt := inClass (top 20) 4
abbrev s_Moved_applied : Stmt := inClass (top 20) 5
abbrev s_hunk_of : Stmt := top 21
abbrev s_swap_of : Stmt := top 22
abbrev s_added_or_removed_of : Stmt := top 23
abbrev s_moved_of : Stmt := top 24
abbrev s_step_of : Stmt := top 25
abbrev s_row_told : Stmt := top 26
abbrev s_row_turned : Stmt := top 27
abbrev s_share_one : Stmt := top 29
abbrev s_is_inside : Stmt := top 30
abbrev s_commuted : Stmt := top 31
abbrev s_commuted_in_file : Stmt := top 32
abbrev s_hunks_commuted : Stmt := top 33
abbrev s_step_brought_ahead : Stmt := top 34
abbrev s_row_without : Stmt := top 35
abbrev s_row_brought_ahead : Stmt := top 36
abbrev s_merged : Stmt := top 37
abbrev s_Block_init : Stmt := inClass (top 39) 0
abbrev s_block_of : Stmt := top 40
abbrev s_blocks_of : Stmt := top 41
abbrev s_conflicting_pairs : Stmt := top 42
abbrev s_first_conflicts : Stmt := top 43
abbrev s_conflicting_steps : Stmt := top 44
abbrev s_left_of : Stmt := top 45
abbrev s_tree_of : Stmt := top 49
abbrev s_tree_told : Stmt := top 50
abbrev s_tree_after : Stmt := top 51
abbrev s_Store_init : Stmt := inClass (top 63) 0
abbrev s_Store_plant : Stmt := inClass (top 63) 1
abbrev s_Store_refusal_for : Stmt := inClass (top 63) 2
abbrev s_Store_refusal_for_two : Stmt := inClass (top 63) 3
abbrev s_Store_refusal_for_conflicts : Stmt := inClass (top 63) 4
abbrev s_Store_tree_of_row : Stmt := inClass (top 63) 5
abbrev s_Store_add_step : Stmt := inClass (top 63) 6
abbrev s_Store_shown : Stmt := inClass (top 63) 7
abbrev s_Store_outcome : Stmt := inClass (top 63) 8
abbrev s_Store_merge : Stmt := inClass (top 63) 9
abbrev s_Store_sides : Stmt := inClass (top 63) 10
abbrev s_Store_conflicts : Stmt := inClass (top 63) 11
abbrev s_Store_clean : Stmt := inClass (top 63) 12
abbrev s_Store_merge_all : Stmt := inClass (top 63) 13
abbrev s_Store_pull : Stmt := inClass (top 63) 14
abbrev s_Store_drop : Stmt := inClass (top 63) 15
abbrev s_two_merged : Stmt := top 64
abbrev s_Reader_init : Stmt := inClass (top 79) 0
abbrev s_Reader_has_more : Stmt := inClass (top 79) 1
abbrev s_Reader_number : Stmt := inClass (top 79) 2
abbrev s_Reader_run : Stmt := inClass (top 79) 3
abbrev s_answer_of_one_row : Stmt := top 80
abbrev s_answer_of_two_rows : Stmt := top 81
abbrev s_answer_now : Stmt := top 82
abbrev s_answers : Stmt := top 83
def d_is_name : He.DefD := ⟨("is_name", none), "is_name", "is_name", defArgs s_is_name, defBody s_is_name, defScope s_is_name, [], []⟩
def d_are_tokens : He.DefD := ⟨("are_tokens", none), "are_tokens", "are_tokens", defArgs s_are_tokens, defBody s_are_tokens, defScope s_are_tokens, [], []⟩
def d_tokens_at : He.DefD := ⟨("tokens_at", none), "tokens_at", "tokens_at", defArgs s_tokens_at, defBody s_tokens_at, defScope s_tokens_at, [], []⟩
def d_with_file : He.DefD := ⟨("with_file", none), "with_file", "with_file", defArgs s_with_file, defBody s_with_file, defScope s_with_file, [], []⟩
def d_without_file : He.DefD := ⟨("without_file", none), "without_file", "without_file", defArgs s_without_file, defBody s_without_file, defScope s_without_file, [], []⟩
def d_Hunk_init : He.DefD := ⟨("Hunk", some "__init__"), "__init__", "Hunk.__init__", defArgs s_Hunk_init, defBody s_Hunk_init, defScope s_Hunk_init, [], []⟩
def d_Hunk_names : He.DefD := ⟨("Hunk", some "names"), "names", "Hunk.names", defArgs s_Hunk_names, defBody s_Hunk_names, defScope s_Hunk_names, [], []⟩
def d_Hunk_told : He.DefD := ⟨("Hunk", some "told"), "told", "Hunk.told", defArgs s_Hunk_told, defBody s_Hunk_told, defScope s_Hunk_told, [], []⟩
def d_Hunk_turned : He.DefD := ⟨("Hunk", some "turned"), "turned", "Hunk.turned", defArgs s_Hunk_turned, defBody s_Hunk_turned, defScope s_Hunk_turned, [], []⟩
def d_Hunk_inside : He.DefD := ⟨("Hunk", some "inside"), "inside", "Hunk.inside", defArgs s_Hunk_inside, defBody s_Hunk_inside, defScope s_Hunk_inside, [], []⟩
def d_Hunk_standing_at : He.DefD := ⟨("Hunk", some "standing_at"), "standing_at", "Hunk.standing_at", defArgs s_Hunk_standing_at, defBody s_Hunk_standing_at, defScope s_Hunk_standing_at, [], []⟩
def d_Hunk_swapped : He.DefD := ⟨("Hunk", some "swapped"), "swapped", "Hunk.swapped", defArgs s_Hunk_swapped, defBody s_Hunk_swapped, defScope s_Hunk_swapped, [], []⟩
def d_Hunk_fits : He.DefD := ⟨("Hunk", some "fits"), "fits", "Hunk.fits", defArgs s_Hunk_fits, defBody s_Hunk_fits, defScope s_Hunk_fits, [], []⟩
def d_Hunk_applied : He.DefD := ⟨("Hunk", some "applied"), "applied", "Hunk.applied", defArgs s_Hunk_applied, defBody s_Hunk_applied, defScope s_Hunk_applied, [], []⟩
def d_Swap_init : He.DefD := ⟨("Swap", some "__init__"), "__init__", "Swap.__init__", defArgs s_Swap_init, defBody s_Swap_init, defScope s_Swap_init, [], []⟩
def d_Swap_names : He.DefD := ⟨("Swap", some "names"), "names", "Swap.names", defArgs s_Swap_names, defBody s_Swap_names, defScope s_Swap_names, [], []⟩
def d_Swap_tokens : He.DefD := ⟨("Swap", some "tokens"), "tokens", "Swap.tokens", defArgs s_Swap_tokens, defBody s_Swap_tokens, defScope s_Swap_tokens, [], []⟩
def d_Swap_told : He.DefD := ⟨("Swap", some "told"), "told", "Swap.told", defArgs s_Swap_told, defBody s_Swap_told, defScope s_Swap_told, [], []⟩
def d_Swap_turned : He.DefD := ⟨("Swap", some "turned"), "turned", "Swap.turned", defArgs s_Swap_turned, defBody s_Swap_turned, defScope s_Swap_turned, [], []⟩
def d_Swap_inside : He.DefD := ⟨("Swap", some "inside"), "inside", "Swap.inside", defArgs s_Swap_inside, defBody s_Swap_inside, defScope s_Swap_inside, [], []⟩
def d_Swap_swapped_in : He.DefD := ⟨("Swap", some "swapped_in"), "swapped_in", "Swap.swapped_in", defArgs s_Swap_swapped_in, defBody s_Swap_swapped_in, defScope s_Swap_swapped_in, [], []⟩
def d_Swap_fits : He.DefD := ⟨("Swap", some "fits"), "fits", "Swap.fits", defArgs s_Swap_fits, defBody s_Swap_fits, defScope s_Swap_fits, [], []⟩
def d_Swap_applied : He.DefD := ⟨("Swap", some "applied"), "applied", "Swap.applied", defArgs s_Swap_applied, defBody s_Swap_applied, defScope s_Swap_applied, [], []⟩
def d_Added_init : He.DefD := ⟨("Added", some "__init__"), "__init__", "Added.__init__", defArgs s_Added_init, defBody s_Added_init, defScope s_Added_init, [], []⟩
def d_Added_names : He.DefD := ⟨("Added", some "names"), "names", "Added.names", defArgs s_Added_names, defBody s_Added_names, defScope s_Added_names, [], []⟩
def d_Added_told : He.DefD := ⟨("Added", some "told"), "told", "Added.told", defArgs s_Added_told, defBody s_Added_told, defScope s_Added_told, [], []⟩
def d_Added_turned : He.DefD := ⟨("Added", some "turned"), "turned", "Added.turned", defArgs s_Added_turned, defBody s_Added_turned, defScope s_Added_turned, [], []⟩
def d_Added_fits : He.DefD := ⟨("Added", some "fits"), "fits", "Added.fits", defArgs s_Added_fits, defBody s_Added_fits, defScope s_Added_fits, [], []⟩
def d_Added_applied : He.DefD := ⟨("Added", some "applied"), "applied", "Added.applied", defArgs s_Added_applied, defBody s_Added_applied, defScope s_Added_applied, [], []⟩
def d_Removed_init : He.DefD := ⟨("Removed", some "__init__"), "__init__", "Removed.__init__", defArgs s_Removed_init, defBody s_Removed_init, defScope s_Removed_init, [], []⟩
def d_Removed_names : He.DefD := ⟨("Removed", some "names"), "names", "Removed.names", defArgs s_Removed_names, defBody s_Removed_names, defScope s_Removed_names, [], []⟩
def d_Removed_told : He.DefD := ⟨("Removed", some "told"), "told", "Removed.told", defArgs s_Removed_told, defBody s_Removed_told, defScope s_Removed_told, [], []⟩
def d_Removed_turned : He.DefD := ⟨("Removed", some "turned"), "turned", "Removed.turned", defArgs s_Removed_turned, defBody s_Removed_turned, defScope s_Removed_turned, [], []⟩
def d_Removed_fits : He.DefD := ⟨("Removed", some "fits"), "fits", "Removed.fits", defArgs s_Removed_fits, defBody s_Removed_fits, defScope s_Removed_fits, [], []⟩
def d_Removed_applied : He.DefD := ⟨("Removed", some "applied"), "applied", "Removed.applied", defArgs s_Removed_applied, defBody s_Removed_applied, defScope s_Removed_applied, [], []⟩
def d_Moved_init : He.DefD := ⟨("Moved", some "__init__"), "__init__", "Moved.__init__", defArgs s_Moved_init, defBody s_Moved_init, defScope s_Moved_init, [], []⟩
def d_Moved_names : He.DefD := ⟨("Moved", some "names"), "names", "Moved.names", defArgs s_Moved_names, defBody s_Moved_names, defScope s_Moved_names, [], []⟩
def d_Moved_told : He.DefD := ⟨("Moved", some "told"), "told", "Moved.told", defArgs s_Moved_told, defBody s_Moved_told, defScope s_Moved_told, [], []⟩
def d_Moved_turned : He.DefD := ⟨("Moved", some "turned"), "turned", "Moved.turned", defArgs s_Moved_turned, defBody s_Moved_turned, defScope s_Moved_turned, [], []⟩
def d_Moved_fits : He.DefD := ⟨("Moved", some "fits"), "fits", "Moved.fits", defArgs s_Moved_fits, defBody s_Moved_fits, defScope s_Moved_fits, [], []⟩
def d_Moved_applied : He.DefD := ⟨("Moved", some "applied"), "applied", "Moved.applied", defArgs s_Moved_applied, defBody s_Moved_applied, defScope s_Moved_applied, [], []⟩
def d_hunk_of : He.DefD := ⟨("hunk_of", none), "hunk_of", "hunk_of", defArgs s_hunk_of, defBody s_hunk_of, defScope s_hunk_of, [], []⟩
def d_swap_of : He.DefD := ⟨("swap_of", none), "swap_of", "swap_of", defArgs s_swap_of, defBody s_swap_of, defScope s_swap_of, [], []⟩
def d_added_or_removed_of : He.DefD := ⟨("added_or_removed_of", none), "added_or_removed_of", "added_or_removed_of", defArgs s_added_or_removed_of, defBody s_added_or_removed_of, defScope s_added_or_removed_of, [], []⟩
def d_moved_of : He.DefD := ⟨("moved_of", none), "moved_of", "moved_of", defArgs s_moved_of, defBody s_moved_of, defScope s_moved_of, [], []⟩
def d_step_of : He.DefD := ⟨("step_of", none), "step_of", "step_of", defArgs s_step_of, defBody s_step_of, defScope s_step_of, [], []⟩
def d_row_told : He.DefD := ⟨("row_told", none), "row_told", "row_told", defArgs s_row_told, defBody s_row_told, defScope s_row_told, [], []⟩
def d_row_turned : He.DefD := ⟨("row_turned", none), "row_turned", "row_turned", defArgs s_row_turned, defBody s_row_turned, defScope s_row_turned, [], []⟩
def d_share_one : He.DefD := ⟨("share_one", none), "share_one", "share_one", defArgs s_share_one, defBody s_share_one, defScope s_share_one, [], []⟩
def d_is_inside : He.DefD := ⟨("is_inside", none), "is_inside", "is_inside", defArgs s_is_inside, defBody s_is_inside, defScope s_is_inside, [], []⟩
def d_commuted : He.DefD := ⟨("commuted", none), "commuted", "commuted", defArgs s_commuted, defBody s_commuted, defScope s_commuted, [], []⟩
def d_commuted_in_file : He.DefD := ⟨("commuted_in_file", none), "commuted_in_file", "commuted_in_file", defArgs s_commuted_in_file, defBody s_commuted_in_file, defScope s_commuted_in_file, [], []⟩
def d_hunks_commuted : He.DefD := ⟨("hunks_commuted", none), "hunks_commuted", "hunks_commuted", defArgs s_hunks_commuted, defBody s_hunks_commuted, defScope s_hunks_commuted, [], []⟩
def d_step_brought_ahead : He.DefD := ⟨("step_brought_ahead", none), "step_brought_ahead", "step_brought_ahead", defArgs s_step_brought_ahead, defBody s_step_brought_ahead, defScope s_step_brought_ahead, [], []⟩
def d_row_without : He.DefD := ⟨("row_without", none), "row_without", "row_without", defArgs s_row_without, defBody s_row_without, defScope s_row_without, [], []⟩
def d_row_brought_ahead : He.DefD := ⟨("row_brought_ahead", none), "row_brought_ahead", "row_brought_ahead", defArgs s_row_brought_ahead, defBody s_row_brought_ahead, defScope s_row_brought_ahead, [], []⟩
def d_merged : He.DefD := ⟨("merged", none), "merged", "merged", defArgs s_merged, defBody s_merged, defScope s_merged, [], []⟩
def d_Block_init : He.DefD := ⟨("Block", some "__init__"), "__init__", "Block.__init__", defArgs s_Block_init, defBody s_Block_init, defScope s_Block_init, [], []⟩
def d_block_of : He.DefD := ⟨("block_of", none), "block_of", "block_of", defArgs s_block_of, defBody s_block_of, defScope s_block_of, [], []⟩
def d_blocks_of : He.DefD := ⟨("blocks_of", none), "blocks_of", "blocks_of", defArgs s_blocks_of, defBody s_blocks_of, defScope s_blocks_of, [], []⟩
def d_conflicting_pairs : He.DefD := ⟨("conflicting_pairs", none), "conflicting_pairs", "conflicting_pairs", defArgs s_conflicting_pairs, defBody s_conflicting_pairs, defScope s_conflicting_pairs, [], []⟩
def d_first_conflicts : He.DefD := ⟨("first_conflicts", none), "first_conflicts", "first_conflicts", defArgs s_first_conflicts, defBody s_first_conflicts, defScope s_first_conflicts, [], []⟩
def d_conflicting_steps : He.DefD := ⟨("conflicting_steps", none), "conflicting_steps", "conflicting_steps", defArgs s_conflicting_steps, defBody s_conflicting_steps, defScope s_conflicting_steps, [], []⟩
def d_left_of : He.DefD := ⟨("left_of", none), "left_of", "left_of", defArgs s_left_of, defBody s_left_of, defScope s_left_of, [], []⟩
def d_tree_of : He.DefD := ⟨("tree_of", none), "tree_of", "tree_of", defArgs s_tree_of, defBody s_tree_of, defScope s_tree_of, [], []⟩
def d_tree_told : He.DefD := ⟨("tree_told", none), "tree_told", "tree_told", defArgs s_tree_told, defBody s_tree_told, defScope s_tree_told, [], []⟩
def d_tree_after : He.DefD := ⟨("tree_after", none), "tree_after", "tree_after", defArgs s_tree_after, defBody s_tree_after, defScope s_tree_after, [], []⟩
def d_Store_init : He.DefD := ⟨("Store", some "__init__"), "__init__", "Store.__init__", defArgs s_Store_init, defBody s_Store_init, defScope s_Store_init, [], []⟩
def d_Store_plant : He.DefD := ⟨("Store", some "plant"), "plant", "Store.plant", defArgs s_Store_plant, defBody s_Store_plant, defScope s_Store_plant, [], []⟩
def d_Store_refusal_for : He.DefD := ⟨("Store", some "refusal_for"), "refusal_for", "Store.refusal_for", defArgs s_Store_refusal_for, defBody s_Store_refusal_for, defScope s_Store_refusal_for, [], []⟩
def d_Store_refusal_for_two : He.DefD := ⟨("Store", some "refusal_for_two"), "refusal_for_two", "Store.refusal_for_two", defArgs s_Store_refusal_for_two, defBody s_Store_refusal_for_two, defScope s_Store_refusal_for_two, [], []⟩
def d_Store_refusal_for_conflicts : He.DefD := ⟨("Store", some "refusal_for_conflicts"), "refusal_for_conflicts", "Store.refusal_for_conflicts", defArgs s_Store_refusal_for_conflicts, defBody s_Store_refusal_for_conflicts, defScope s_Store_refusal_for_conflicts, [], []⟩
def d_Store_tree_of_row : He.DefD := ⟨("Store", some "tree_of_row"), "tree_of_row", "Store.tree_of_row", defArgs s_Store_tree_of_row, defBody s_Store_tree_of_row, defScope s_Store_tree_of_row, [], []⟩
def d_Store_add_step : He.DefD := ⟨("Store", some "add_step"), "add_step", "Store.add_step", defArgs s_Store_add_step, defBody s_Store_add_step, defScope s_Store_add_step, [], []⟩
def d_Store_shown : He.DefD := ⟨("Store", some "shown"), "shown", "Store.shown", defArgs s_Store_shown, defBody s_Store_shown, defScope s_Store_shown, [], []⟩
def d_Store_outcome : He.DefD := ⟨("Store", some "outcome"), "outcome", "Store.outcome", defArgs s_Store_outcome, defBody s_Store_outcome, defScope s_Store_outcome, [], []⟩
def d_Store_merge : He.DefD := ⟨("Store", some "merge"), "merge", "Store.merge", defArgs s_Store_merge, defBody s_Store_merge, defScope s_Store_merge, [], []⟩
def d_Store_sides : He.DefD := ⟨("Store", some "sides"), "sides", "Store.sides", defArgs s_Store_sides, defBody s_Store_sides, defScope s_Store_sides, [], []⟩
def d_Store_conflicts : He.DefD := ⟨("Store", some "conflicts"), "conflicts", "Store.conflicts", defArgs s_Store_conflicts, defBody s_Store_conflicts, defScope s_Store_conflicts, [], []⟩
def d_Store_clean : He.DefD := ⟨("Store", some "clean"), "clean", "Store.clean", defArgs s_Store_clean, defBody s_Store_clean, defScope s_Store_clean, [], []⟩
def d_Store_merge_all : He.DefD := ⟨("Store", some "merge_all"), "merge_all", "Store.merge_all", defArgs s_Store_merge_all, defBody s_Store_merge_all, defScope s_Store_merge_all, [], []⟩
def d_Store_pull : He.DefD := ⟨("Store", some "pull"), "pull", "Store.pull", defArgs s_Store_pull, defBody s_Store_pull, defScope s_Store_pull, [], []⟩
def d_Store_drop : He.DefD := ⟨("Store", some "drop"), "drop", "Store.drop", defArgs s_Store_drop, defBody s_Store_drop, defScope s_Store_drop, [], []⟩
def d_two_merged : He.DefD := ⟨("two_merged", none), "two_merged", "two_merged", defArgs s_two_merged, defBody s_two_merged, defScope s_two_merged, [], []⟩
def d_Reader_init : He.DefD := ⟨("Reader", some "__init__"), "__init__", "Reader.__init__", defArgs s_Reader_init, defBody s_Reader_init, defScope s_Reader_init, [], []⟩
def d_Reader_has_more : He.DefD := ⟨("Reader", some "has_more"), "has_more", "Reader.has_more", defArgs s_Reader_has_more, defBody s_Reader_has_more, defScope s_Reader_has_more, [], []⟩
def d_Reader_number : He.DefD := ⟨("Reader", some "number"), "number", "Reader.number", defArgs s_Reader_number, defBody s_Reader_number, defScope s_Reader_number, [], []⟩
def d_Reader_run : He.DefD := ⟨("Reader", some "run"), "run", "Reader.run", defArgs s_Reader_run, defBody s_Reader_run, defScope s_Reader_run, [], []⟩
def d_answer_of_one_row : He.DefD := ⟨("answer_of_one_row", none), "answer_of_one_row", "answer_of_one_row", defArgs s_answer_of_one_row, defBody s_answer_of_one_row, defScope s_answer_of_one_row, [], []⟩
def d_answer_of_two_rows : He.DefD := ⟨("answer_of_two_rows", none), "answer_of_two_rows", "answer_of_two_rows", defArgs s_answer_of_two_rows, defBody s_answer_of_two_rows, defScope s_answer_of_two_rows, [], []⟩
def d_answer_now : He.DefD := ⟨("answer_now", none), "answer_now", "answer_now", defArgs s_answer_now, defBody s_answer_now, defScope s_answer_now, [], []⟩
def d_answers : He.DefD := ⟨("answers", none), "answers", "answers", defArgs s_answers, defBody s_answers, defScope s_answers, [], []⟩
def fns : List He.DefD := [d_is_name, d_are_tokens, d_tokens_at, d_with_file, d_without_file, d_Hunk_init, d_Hunk_names, d_Hunk_told, d_Hunk_turned, d_Hunk_inside, d_Hunk_standing_at, d_Hunk_swapped, d_Hunk_fits, d_Hunk_applied, d_Swap_init, d_Swap_names, d_Swap_tokens, d_Swap_told, d_Swap_turned, d_Swap_inside, d_Swap_swapped_in, d_Swap_fits, d_Swap_applied, d_Added_init, d_Added_names, d_Added_told, d_Added_turned, d_Added_fits, d_Added_applied, d_Removed_init, d_Removed_names, d_Removed_told, d_Removed_turned, d_Removed_fits, d_Removed_applied, d_Moved_init, d_Moved_names, d_Moved_told, d_Moved_turned, d_Moved_fits, d_Moved_applied, d_hunk_of, d_swap_of, d_added_or_removed_of, d_moved_of, d_step_of, d_row_told, d_row_turned, d_share_one, d_is_inside, d_commuted, d_commuted_in_file, d_hunks_commuted, d_step_brought_ahead, d_row_without, d_row_brought_ahead, d_merged, d_Block_init, d_block_of, d_blocks_of, d_conflicting_pairs, d_first_conflicts, d_conflicting_steps, d_left_of, d_tree_of, d_tree_told, d_tree_after, d_Store_init, d_Store_plant, d_Store_refusal_for, d_Store_refusal_for_two, d_Store_refusal_for_conflicts, d_Store_tree_of_row, d_Store_add_step, d_Store_shown, d_Store_outcome, d_Store_merge, d_Store_sides, d_Store_conflicts, d_Store_clean, d_Store_merge_all, d_Store_pull, d_Store_drop, d_two_merged, d_Reader_init, d_Reader_has_more, d_Reader_number, d_Reader_run, d_answer_of_one_row, d_answer_of_two_rows, d_answer_now, d_answers]
def fas : List He.Fa := [.glo "is_name", .glo "are_tokens", .glo "tokens_at", .glo "with_file", .glo "without_file", .glo "hunk_of", .glo "swap_of", .glo "added_or_removed_of", .glo "moved_of", .glo "step_of", .glo "row_told", .glo "row_turned", .glo "share_one", .glo "is_inside", .glo "commuted", .glo "commuted_in_file", .glo "hunks_commuted", .glo "step_brought_ahead", .glo "row_without", .glo "row_brought_ahead", .glo "merged", .glo "block_of", .glo "blocks_of", .glo "conflicting_pairs", .glo "first_conflicts", .glo "conflicting_steps", .glo "left_of", .glo "tree_of", .glo "tree_told", .glo "tree_after", .glo "two_merged", .glo "answer_of_one_row", .glo "answer_of_two_rows", .glo "answer_now", .glo "answers", .glo "Hunk", .cls "Hunk", .mkr "Hunk", .noat "Hunk" "file", .noat "Hunk" "place", .noat "Hunk" "old", .noat "Hunk" "new", .meth "Hunk" "names", .meth "Hunk" "told", .meth "Hunk" "turned", .meth "Hunk" "inside", .meth "Hunk" "standing_at", .meth "Hunk" "swapped", .meth "Hunk" "fits", .meth "Hunk" "applied", .glo "Swap", .cls "Swap", .mkr "Swap", .noat "Swap" "file", .noat "Swap" "one", .noat "Swap" "other", .meth "Swap" "names", .meth "Swap" "tokens", .meth "Swap" "told", .meth "Swap" "turned", .meth "Swap" "inside", .meth "Swap" "swapped_in", .meth "Swap" "fits", .meth "Swap" "applied", .glo "Added", .cls "Added", .mkr "Added", .noat "Added" "file", .meth "Added" "names", .meth "Added" "told", .meth "Added" "turned", .meth "Added" "fits", .meth "Added" "applied", .glo "Removed", .cls "Removed", .mkr "Removed", .noat "Removed" "file", .meth "Removed" "names", .meth "Removed" "told", .meth "Removed" "turned", .meth "Removed" "fits", .meth "Removed" "applied", .glo "Moved", .cls "Moved", .mkr "Moved", .noat "Moved" "old_name", .noat "Moved" "new_name", .meth "Moved" "names", .meth "Moved" "told", .meth "Moved" "turned", .meth "Moved" "fits", .meth "Moved" "applied", .glo "Block", .cls "Block", .mkr "Block", .noat "Block" "steps", .noat "Block" "places", .glo "Store", .cls "Store", .mkr "Store", .noat "Store" "tree", .noat "Store" "rows", .meth "Store" "plant", .meth "Store" "refusal_for", .meth "Store" "refusal_for_two", .meth "Store" "refusal_for_conflicts", .meth "Store" "tree_of_row", .meth "Store" "add_step", .meth "Store" "shown", .meth "Store" "outcome", .meth "Store" "merge", .meth "Store" "sides", .meth "Store" "conflicts", .meth "Store" "clean", .meth "Store" "merge_all", .meth "Store" "pull", .meth "Store" "drop", .glo "Reader", .cls "Reader", .mkr "Reader", .noat "Reader" "numbers", .noat "Reader" "place", .meth "Reader" "has_more", .meth "Reader" "number", .meth "Reader" "run", .int "TOP_NAME" (9), .int "TOP_TOKEN" (99), .int "HUNK" (0), .int "SWAP" (1), .int "ADDED" (2), .int "REMOVED" (3), .int "MOVED" (4), .int "TOP_PLACE" (1000), .int "MOST_TOKENS_steps" (8), .int "MOST_FILES" (6), .int "MOST_TOKENS_trees" (12), .int "ROWS" (4), .int "MOST_STEPS" (8), .int "MOST_STEPS_PULLED" (24), .int "NOT_WHOLE" (-1), .int "NO_ROW" (-2), .int "SAME_ROW" (-3), .int "NO_FIT" (-4), .int "TOO_MANY" (-6), .int "NOT_MERGED" (-7), .int "NO_TREE" (-8), .int "TREE" (0), .int "STEP" (1), .int "SHOWN" (2), .int "OUTCOME" (3), .int "MERGE" (4), .int "SIDES" (5), .int "CONFLICTS" (6), .int "CLEAN" (7), .int "ALL" (8), .int "PULL" (9), .int "DROP" (10), .int "TWO" (11), .free "len", .free "range", .free "enumerate", .free "max", .free "sorted", .free "reversed", .free "list", .free "tuple", .free "dict", .free "set", .free "isinstance", .free "any", .free "all"]
def loose0 : List PySem.Str := ["__name__", "TOP_NAME", "TOP_TOKEN", "is_name", "are_tokens", "tokens_at", "HUNK", "SWAP", "ADDED", "REMOVED", "MOVED", "TOP_PLACE", "MOST_TOKENS_steps", "with_file", "without_file", "Hunk", "Swap", "Added", "Removed", "Moved", "hunk_of", "swap_of", "added_or_removed_of", "moved_of", "step_of", "row_told", "row_turned", "share_one", "is_inside", "commuted"]
def loose1 : List PySem.Str := ["commuted_in_file", "hunks_commuted", "step_brought_ahead", "row_without", "row_brought_ahead", "merged", "Block", "block_of", "blocks_of", "conflicting_pairs", "first_conflicts", "conflicting_steps", "left_of", "MOST_FILES", "MOST_TOKENS_trees", "tree_of", "tree_told", "tree_after", "ROWS", "MOST_STEPS", "MOST_STEPS_PULLED", "NOT_WHOLE", "NO_ROW", "SAME_ROW", "NO_FIT", "TOO_MANY", "NOT_MERGED", "NO_TREE", "Store", "two_merged"]
def loose2 : List PySem.Str := ["TREE", "STEP", "SHOWN", "OUTCOME", "MERGE", "SIDES", "CONFLICTS", "CLEAN", "ALL", "PULL", "DROP", "TWO", "NoSuchCall", "Reader", "answer_of_one_row", "answer_of_two_rows", "answer_now"]
def loose : List PySem.Str := loose0 ++ loose1 ++ loose2
abbrev qv : Program := PySem.W.view RR.prog [83]
def insB (K : PySem.W.Frag) (c : Str) : Bool := decide (PySem.W.findIn K (.ref (He.ga K c)) "__class__" = some (some (.builtin "object.__class__"))) && decide (PySem.W.mroIn K (He.ga K c) (.type "object") = some true)
def kitB2 (K : PySem.W.Frag) (c d : Str) : Bool := decide (PySem.W.kitOne K (.ref (He.ga K c)) (.ref (He.ga K d)) = some (decide (c = d)))
def kinds : List Str := ["Hunk", "Swap", "Added", "Removed", "Moved"]
def exB (K : PySem.W.Frag) : Bool := decide (PySem.W.specialIn K (.builtin "object.__class__") "__get__" = some (some (.builtin "getset_descriptor.__get__"))) && (decide (PySem.W.takesIn K (.builtin "object.__class__") = some true) && (kinds.all fun c => insB K c && kinds.all fun d => kitB2 K c d))
def adr0 : List Addr := [3, 6, 4, 21, 26, 33, 40, 47, 120, 195, 251, 307, 363, 374, 381, 388, 395, 402, 409, 414, 419, 426, 433, 440, 447, 454, 461, 468, 475, 492, 503, 508, 515, 520, 525, 532, 539, 546, 553, 671, 682, 692, 733, 744, 751, 758, 765, 0, 20, 25, 32, 39, 46, 119, 194, 250, 306, 362, 373, 380]
def adr1 : List Addr := [387, 394, 401, 408, 413, 418, 425, 432, 439, 446, 453, 460, 467, 474, 491, 502, 507, 514, 519, 524, 531, 538, 545, 552, 670, 681, 691, 732, 743, 750, 757, 764, 15, 17, 18, 19, 22, 24, 27, 29, 30, 31, 34, 36, 37, 38, 41, 43, 44, 45, 61, 68, 75, 82, 89, 96, 103, 110, 117, 118]
def adr2 : List Addr := [121, 122, 138, 145, 152, 159, 166, 173, 178, 185, 192, 193, 196, 197, 213, 220, 227, 234, 241, 248, 249, 252, 253, 269, 276, 283, 290, 297, 304, 305, 308, 309, 325, 332, 339, 346, 353, 360, 361, 364, 365, 368, 370, 371, 372, 375, 377, 378, 379, 382, 384, 385, 386, 389, 391, 392, 393, 396, 398, 399]
def adr3 : List Addr := [400, 403, 405, 406, 407, 410, 412, 415, 417, 420, 422, 423, 424, 427, 429, 430, 431, 434, 436, 437, 438, 441, 443, 444, 445, 448, 450, 451, 452, 455, 457, 458, 459, 462, 464, 465, 466, 469, 471, 472, 473, 489, 490, 493, 494, 497, 499, 500, 501, 504, 506, 509, 511, 512, 513, 516, 518, 521, 523, 526]
def adr4 : List Addr := [528, 529, 530, 533, 535, 536, 537, 540, 542, 543, 544, 547, 549, 550, 551, 567, 572, 577, 584, 591, 598, 605, 612, 619, 626, 633, 640, 647, 654, 661, 668, 669, 672, 673, 676, 678, 679, 680, 690, 693, 709, 716, 723, 730, 731, 734, 735, 738, 740, 741, 742, 745, 747, 748, 749, 752, 754, 755, 756, 759]
def adr5 : List Addr := [761, 762, 763, 60, 67, 74, 81, 88, 95, 102, 109, 116, 137, 144, 151, 158, 165, 172, 177, 184, 191, 212, 219, 226, 233, 240, 247, 268, 275, 282, 289, 296, 303, 324, 331, 338, 345, 352, 359, 488, 566, 571, 576, 583, 590, 597, 604, 611, 618, 625, 632, 639, 646, 653, 660, 667, 708, 715, 722, 729]
def adr6 : List Addr := [55, 57, 58, 59, 62, 64, 65, 66, 69, 71, 72, 73, 76, 78, 79, 80, 83, 85, 86, 87, 90, 92, 93, 94, 97, 99, 100, 101, 104, 106, 107, 108, 111, 113, 114, 115, 132, 134, 135, 136, 139, 141, 142, 143, 146, 148, 149, 150, 153, 155, 156, 157, 160, 162, 163, 164, 167, 169, 170, 171]
def adr7 : List Addr := [174, 176, 179, 181, 182, 183, 186, 188, 189, 190, 207, 209, 210, 211, 214, 216, 217, 218, 221, 223, 224, 225, 228, 230, 231, 232, 235, 237, 238, 239, 242, 244, 245, 246, 263, 265, 266, 267, 270, 272, 273, 274, 277, 279, 280, 281, 284, 286, 287, 288, 291, 293, 294, 295, 298, 300, 301, 302, 319, 321]
def adr8 : List Addr := [322, 323, 326, 328, 329, 330, 333, 335, 336, 337, 340, 342, 343, 344, 347, 349, 350, 351, 354, 356, 357, 358, 483, 485, 486, 487, 561, 563, 564, 565, 568, 570, 573, 575, 578, 580, 581, 582, 585, 587, 588, 589, 592, 594, 595, 596, 599, 601, 602, 603, 606, 608, 609, 610, 613, 615, 616, 617, 620, 622]
def adr9 : List Addr := [623, 624, 627, 629, 630, 631, 634, 636, 637, 638, 641, 643, 644, 645, 648, 650, 651, 652, 655, 657, 658, 659, 662, 664, 665, 666, 703, 705, 706, 707, 710, 712, 713, 714, 717, 719, 720, 721, 724, 726, 727, 728]
/-- where the top lays what is asked for -/
def addrs : List Addr := adr0 ++ (adr1 ++ (adr2 ++ (adr3 ++ (adr4 ++ (adr5 ++ (adr6 ++ (adr7 ++ (adr8 ++ (adr9)))))))))
def obM (g : Addr → Option Obj) : He.AlD × Bool := (He.obsD fas fns (He.frT g addrs), exB (He.frT g addrs))
def hk : PySem.W.Hook where
  α := He.AlD × Bool
  obs := fun s => obM s.heap.get?
  val := fun _ => (He.valD fns, true)
  says := fun _ h => ∃ K : PySem.W.Frag, K.In h ∧ He.SaysD fas fns K ∧ exB K = true
  of := fun _ s e => ⟨He.frT s.heap.get? addrs, He.frT_in, congrArg (fun z : He.AlD × Bool => z.1) e, congrArg (fun z : He.AlD × Bool => z.2) e⟩
  keeps := fun _ _ _ ⟨K, a, b, c⟩ k => ⟨K, PySem.W.Frag.In.keeps a k, b, c⟩
def ob (s : PySem.W.SharedT) : He.AlD × Bool := obM (HandSHeadRun.getT s)
theorem ob_eq (s : PySem.W.SharedT) : ob s = hk.obs s.abs := by
  have e : HandSHeadRun.getT s = s.abs.heap.get? := funext fun a => HandSHeadRun.getT_eq s a
  show obM (HandSHeadRun.getT s) = obM s.abs.heap.get?
  rw [e]
theorem run (w : World) : HandSHeadRun.RunEqS RR qv hk ob 6500 loose w := by
  intro os
  kernel_rfl
end Rw
end
section
set_option Elab.async false
set_option linter.all false
set_option maxRecDepth 100000
set_option maxHeartbeats 4000000
namespace Rw
open PySem PySem.Spec PyProof.Rows L2
/-! ### what the top has left, in one word -/
structure Tx (K : PySem.W.Frag) (mg : Str → Option Value) : Prop where
  heap : ∃ h : Heap, K.In h ∧ h.Ns mainGlobals mg
  says : He.SaysD fas fns K
  more : exB K = true
section
variable {K : PySem.W.Frag} {mg : Str → Option Value}
theorem Tx.glo_at (T : Tx K mg) (i : Nat) {x : Str} (e : fas[i]? = some (.glo x)) : mg x = some (.ref (He.ga K x)) := by
  obtain ⟨h, a, b⟩ := T.heap
  exact He.glo_ok a b (T.says.fact i e)
theorem Tx.free_at (T : Tx K mg) (i : Nat) {x : Str} (e : fas[i]? = some (.free x)) : mg x = none := by
  obtain ⟨h, a, b⟩ := T.heap
  exact He.free_ok a b (T.says.fact i e)
theorem Tx.int_at (T : Tx K mg) (i : Nat) {x : Str} {n : Int} (e : fas[i]? = some (.int x n)) : ∃ t, mg x = some (.int n t) := by
  obtain ⟨h, a, b⟩ := T.heap
  exact He.int_ok a b (T.says.fact i e)
theorem g_is_name (T : Tx K mg) : mg "is_name" = some (.ref (He.ga K "is_name")) := T.glo_at 0 rfl
theorem g_are_tokens (T : Tx K mg) : mg "are_tokens" = some (.ref (He.ga K "are_tokens")) := T.glo_at 1 rfl
theorem g_tokens_at (T : Tx K mg) : mg "tokens_at" = some (.ref (He.ga K "tokens_at")) := T.glo_at 2 rfl
theorem g_with_file (T : Tx K mg) : mg "with_file" = some (.ref (He.ga K "with_file")) := T.glo_at 3 rfl
theorem g_without_file (T : Tx K mg) : mg "without_file" = some (.ref (He.ga K "without_file")) := T.glo_at 4 rfl
theorem g_hunk_of (T : Tx K mg) : mg "hunk_of" = some (.ref (He.ga K "hunk_of")) := T.glo_at 5 rfl
theorem g_swap_of (T : Tx K mg) : mg "swap_of" = some (.ref (He.ga K "swap_of")) := T.glo_at 6 rfl
theorem g_added_or_removed_of (T : Tx K mg) : mg "added_or_removed_of" = some (.ref (He.ga K "added_or_removed_of")) := T.glo_at 7 rfl
theorem g_moved_of (T : Tx K mg) : mg "moved_of" = some (.ref (He.ga K "moved_of")) := T.glo_at 8 rfl
theorem g_step_of (T : Tx K mg) : mg "step_of" = some (.ref (He.ga K "step_of")) := T.glo_at 9 rfl
theorem g_row_told (T : Tx K mg) : mg "row_told" = some (.ref (He.ga K "row_told")) := T.glo_at 10 rfl
theorem g_row_turned (T : Tx K mg) : mg "row_turned" = some (.ref (He.ga K "row_turned")) := T.glo_at 11 rfl
theorem g_share_one (T : Tx K mg) : mg "share_one" = some (.ref (He.ga K "share_one")) := T.glo_at 12 rfl
theorem g_is_inside (T : Tx K mg) : mg "is_inside" = some (.ref (He.ga K "is_inside")) := T.glo_at 13 rfl
theorem g_commuted (T : Tx K mg) : mg "commuted" = some (.ref (He.ga K "commuted")) := T.glo_at 14 rfl
theorem g_commuted_in_file (T : Tx K mg) : mg "commuted_in_file" = some (.ref (He.ga K "commuted_in_file")) := T.glo_at 15 rfl
theorem g_hunks_commuted (T : Tx K mg) : mg "hunks_commuted" = some (.ref (He.ga K "hunks_commuted")) := T.glo_at 16 rfl
theorem g_step_brought_ahead (T : Tx K mg) : mg "step_brought_ahead" = some (.ref (He.ga K "step_brought_ahead")) := T.glo_at 17 rfl
theorem g_row_without (T : Tx K mg) : mg "row_without" = some (.ref (He.ga K "row_without")) := T.glo_at 18 rfl
theorem g_row_brought_ahead (T : Tx K mg) : mg "row_brought_ahead" = some (.ref (He.ga K "row_brought_ahead")) := T.glo_at 19 rfl
theorem g_merged (T : Tx K mg) : mg "merged" = some (.ref (He.ga K "merged")) := T.glo_at 20 rfl
theorem g_block_of (T : Tx K mg) : mg "block_of" = some (.ref (He.ga K "block_of")) := T.glo_at 21 rfl
theorem g_blocks_of (T : Tx K mg) : mg "blocks_of" = some (.ref (He.ga K "blocks_of")) := T.glo_at 22 rfl
theorem g_conflicting_pairs (T : Tx K mg) : mg "conflicting_pairs" = some (.ref (He.ga K "conflicting_pairs")) := T.glo_at 23 rfl
theorem g_first_conflicts (T : Tx K mg) : mg "first_conflicts" = some (.ref (He.ga K "first_conflicts")) := T.glo_at 24 rfl
theorem g_conflicting_steps (T : Tx K mg) : mg "conflicting_steps" = some (.ref (He.ga K "conflicting_steps")) := T.glo_at 25 rfl
theorem g_left_of (T : Tx K mg) : mg "left_of" = some (.ref (He.ga K "left_of")) := T.glo_at 26 rfl
theorem g_tree_of (T : Tx K mg) : mg "tree_of" = some (.ref (He.ga K "tree_of")) := T.glo_at 27 rfl
theorem g_tree_told (T : Tx K mg) : mg "tree_told" = some (.ref (He.ga K "tree_told")) := T.glo_at 28 rfl
theorem g_tree_after (T : Tx K mg) : mg "tree_after" = some (.ref (He.ga K "tree_after")) := T.glo_at 29 rfl
theorem g_two_merged (T : Tx K mg) : mg "two_merged" = some (.ref (He.ga K "two_merged")) := T.glo_at 30 rfl
theorem g_answer_of_one_row (T : Tx K mg) : mg "answer_of_one_row" = some (.ref (He.ga K "answer_of_one_row")) := T.glo_at 31 rfl
theorem g_answer_of_two_rows (T : Tx K mg) : mg "answer_of_two_rows" = some (.ref (He.ga K "answer_of_two_rows")) := T.glo_at 32 rfl
theorem g_answer_now (T : Tx K mg) : mg "answer_now" = some (.ref (He.ga K "answer_now")) := T.glo_at 33 rfl
theorem g_answers (T : Tx K mg) : mg "answers" = some (.ref (He.ga K "answers")) := T.glo_at 34 rfl
theorem g_Hunk (T : Tx K mg) : mg "Hunk" = some (.ref (He.ga K "Hunk")) := T.glo_at 35 rfl
theorem c_Hunk (T : Tx K mg) : Cls K (He.ga K "Hunk") := He.cls_ok (T.says.fact 36 rfl)
theorem k_Hunk (T : Tx K mg) : Mk K (He.ga K "Hunk") (He.ma K (He.ga K "Hunk") "__init__") := He.mkr_ok (T.says.fact 37 rfl)
theorem n_Hunk_file (T : Tx K mg) : NoAttr K (He.ga K "Hunk") "file" := He.noat_ok (T.says.fact 38 rfl)
theorem n_Hunk_place (T : Tx K mg) : NoAttr K (He.ga K "Hunk") "place" := He.noat_ok (T.says.fact 39 rfl)
theorem n_Hunk_old (T : Tx K mg) : NoAttr K (He.ga K "Hunk") "old" := He.noat_ok (T.says.fact 40 rfl)
theorem n_Hunk_new (T : Tx K mg) : NoAttr K (He.ga K "Hunk") "new" := He.noat_ok (T.says.fact 41 rfl)
theorem m_Hunk_names (T : Tx K mg) : Meth K (He.ga K "Hunk") "names" (He.ma K (He.ga K "Hunk") "names") := He.meth_ok (T.says.fact 42 rfl)
theorem m_Hunk_told (T : Tx K mg) : Meth K (He.ga K "Hunk") "told" (He.ma K (He.ga K "Hunk") "told") := He.meth_ok (T.says.fact 43 rfl)
theorem m_Hunk_turned (T : Tx K mg) : Meth K (He.ga K "Hunk") "turned" (He.ma K (He.ga K "Hunk") "turned") := He.meth_ok (T.says.fact 44 rfl)
theorem m_Hunk_inside (T : Tx K mg) : Meth K (He.ga K "Hunk") "inside" (He.ma K (He.ga K "Hunk") "inside") := He.meth_ok (T.says.fact 45 rfl)
theorem m_Hunk_standing_at (T : Tx K mg) : Meth K (He.ga K "Hunk") "standing_at" (He.ma K (He.ga K "Hunk") "standing_at") := He.meth_ok (T.says.fact 46 rfl)
theorem m_Hunk_swapped (T : Tx K mg) : Meth K (He.ga K "Hunk") "swapped" (He.ma K (He.ga K "Hunk") "swapped") := He.meth_ok (T.says.fact 47 rfl)
theorem m_Hunk_fits (T : Tx K mg) : Meth K (He.ga K "Hunk") "fits" (He.ma K (He.ga K "Hunk") "fits") := He.meth_ok (T.says.fact 48 rfl)
theorem m_Hunk_applied (T : Tx K mg) : Meth K (He.ga K "Hunk") "applied" (He.ma K (He.ga K "Hunk") "applied") := He.meth_ok (T.says.fact 49 rfl)
theorem g_Swap (T : Tx K mg) : mg "Swap" = some (.ref (He.ga K "Swap")) := T.glo_at 50 rfl
theorem c_Swap (T : Tx K mg) : Cls K (He.ga K "Swap") := He.cls_ok (T.says.fact 51 rfl)
theorem k_Swap (T : Tx K mg) : Mk K (He.ga K "Swap") (He.ma K (He.ga K "Swap") "__init__") := He.mkr_ok (T.says.fact 52 rfl)
theorem n_Swap_file (T : Tx K mg) : NoAttr K (He.ga K "Swap") "file" := He.noat_ok (T.says.fact 53 rfl)
theorem n_Swap_one (T : Tx K mg) : NoAttr K (He.ga K "Swap") "one" := He.noat_ok (T.says.fact 54 rfl)
theorem n_Swap_other (T : Tx K mg) : NoAttr K (He.ga K "Swap") "other" := He.noat_ok (T.says.fact 55 rfl)
theorem m_Swap_names (T : Tx K mg) : Meth K (He.ga K "Swap") "names" (He.ma K (He.ga K "Swap") "names") := He.meth_ok (T.says.fact 56 rfl)
theorem m_Swap_tokens (T : Tx K mg) : Meth K (He.ga K "Swap") "tokens" (He.ma K (He.ga K "Swap") "tokens") := He.meth_ok (T.says.fact 57 rfl)
theorem m_Swap_told (T : Tx K mg) : Meth K (He.ga K "Swap") "told" (He.ma K (He.ga K "Swap") "told") := He.meth_ok (T.says.fact 58 rfl)
theorem m_Swap_turned (T : Tx K mg) : Meth K (He.ga K "Swap") "turned" (He.ma K (He.ga K "Swap") "turned") := He.meth_ok (T.says.fact 59 rfl)
theorem m_Swap_inside (T : Tx K mg) : Meth K (He.ga K "Swap") "inside" (He.ma K (He.ga K "Swap") "inside") := He.meth_ok (T.says.fact 60 rfl)
theorem m_Swap_swapped_in (T : Tx K mg) : Meth K (He.ga K "Swap") "swapped_in" (He.ma K (He.ga K "Swap") "swapped_in") := He.meth_ok (T.says.fact 61 rfl)
theorem m_Swap_fits (T : Tx K mg) : Meth K (He.ga K "Swap") "fits" (He.ma K (He.ga K "Swap") "fits") := He.meth_ok (T.says.fact 62 rfl)
theorem m_Swap_applied (T : Tx K mg) : Meth K (He.ga K "Swap") "applied" (He.ma K (He.ga K "Swap") "applied") := He.meth_ok (T.says.fact 63 rfl)
theorem g_Added (T : Tx K mg) : mg "Added" = some (.ref (He.ga K "Added")) := T.glo_at 64 rfl
theorem c_Added (T : Tx K mg) : Cls K (He.ga K "Added") := He.cls_ok (T.says.fact 65 rfl)
theorem k_Added (T : Tx K mg) : Mk K (He.ga K "Added") (He.ma K (He.ga K "Added") "__init__") := He.mkr_ok (T.says.fact 66 rfl)
theorem n_Added_file (T : Tx K mg) : NoAttr K (He.ga K "Added") "file" := He.noat_ok (T.says.fact 67 rfl)
theorem m_Added_names (T : Tx K mg) : Meth K (He.ga K "Added") "names" (He.ma K (He.ga K "Added") "names") := He.meth_ok (T.says.fact 68 rfl)
theorem m_Added_told (T : Tx K mg) : Meth K (He.ga K "Added") "told" (He.ma K (He.ga K "Added") "told") := He.meth_ok (T.says.fact 69 rfl)
theorem m_Added_turned (T : Tx K mg) : Meth K (He.ga K "Added") "turned" (He.ma K (He.ga K "Added") "turned") := He.meth_ok (T.says.fact 70 rfl)
theorem m_Added_fits (T : Tx K mg) : Meth K (He.ga K "Added") "fits" (He.ma K (He.ga K "Added") "fits") := He.meth_ok (T.says.fact 71 rfl)
theorem m_Added_applied (T : Tx K mg) : Meth K (He.ga K "Added") "applied" (He.ma K (He.ga K "Added") "applied") := He.meth_ok (T.says.fact 72 rfl)
theorem g_Removed (T : Tx K mg) : mg "Removed" = some (.ref (He.ga K "Removed")) := T.glo_at 73 rfl
theorem c_Removed (T : Tx K mg) : Cls K (He.ga K "Removed") := He.cls_ok (T.says.fact 74 rfl)
theorem k_Removed (T : Tx K mg) : Mk K (He.ga K "Removed") (He.ma K (He.ga K "Removed") "__init__") := He.mkr_ok (T.says.fact 75 rfl)
theorem n_Removed_file (T : Tx K mg) : NoAttr K (He.ga K "Removed") "file" := He.noat_ok (T.says.fact 76 rfl)
theorem m_Removed_names (T : Tx K mg) : Meth K (He.ga K "Removed") "names" (He.ma K (He.ga K "Removed") "names") := He.meth_ok (T.says.fact 77 rfl)
theorem m_Removed_told (T : Tx K mg) : Meth K (He.ga K "Removed") "told" (He.ma K (He.ga K "Removed") "told") := He.meth_ok (T.says.fact 78 rfl)
theorem m_Removed_turned (T : Tx K mg) : Meth K (He.ga K "Removed") "turned" (He.ma K (He.ga K "Removed") "turned") := He.meth_ok (T.says.fact 79 rfl)
theorem m_Removed_fits (T : Tx K mg) : Meth K (He.ga K "Removed") "fits" (He.ma K (He.ga K "Removed") "fits") := He.meth_ok (T.says.fact 80 rfl)
theorem m_Removed_applied (T : Tx K mg) : Meth K (He.ga K "Removed") "applied" (He.ma K (He.ga K "Removed") "applied") := He.meth_ok (T.says.fact 81 rfl)
theorem g_Moved (T : Tx K mg) : mg "Moved" = some (.ref (He.ga K "Moved")) := T.glo_at 82 rfl
theorem c_Moved (T : Tx K mg) : Cls K (He.ga K "Moved") := He.cls_ok (T.says.fact 83 rfl)
theorem k_Moved (T : Tx K mg) : Mk K (He.ga K "Moved") (He.ma K (He.ga K "Moved") "__init__") := He.mkr_ok (T.says.fact 84 rfl)
theorem n_Moved_old_name (T : Tx K mg) : NoAttr K (He.ga K "Moved") "old_name" := He.noat_ok (T.says.fact 85 rfl)
theorem n_Moved_new_name (T : Tx K mg) : NoAttr K (He.ga K "Moved") "new_name" := He.noat_ok (T.says.fact 86 rfl)
theorem m_Moved_names (T : Tx K mg) : Meth K (He.ga K "Moved") "names" (He.ma K (He.ga K "Moved") "names") := He.meth_ok (T.says.fact 87 rfl)
theorem m_Moved_told (T : Tx K mg) : Meth K (He.ga K "Moved") "told" (He.ma K (He.ga K "Moved") "told") := He.meth_ok (T.says.fact 88 rfl)
theorem m_Moved_turned (T : Tx K mg) : Meth K (He.ga K "Moved") "turned" (He.ma K (He.ga K "Moved") "turned") := He.meth_ok (T.says.fact 89 rfl)
theorem m_Moved_fits (T : Tx K mg) : Meth K (He.ga K "Moved") "fits" (He.ma K (He.ga K "Moved") "fits") := He.meth_ok (T.says.fact 90 rfl)
theorem m_Moved_applied (T : Tx K mg) : Meth K (He.ga K "Moved") "applied" (He.ma K (He.ga K "Moved") "applied") := He.meth_ok (T.says.fact 91 rfl)
theorem g_Block (T : Tx K mg) : mg "Block" = some (.ref (He.ga K "Block")) := T.glo_at 92 rfl
theorem c_Block (T : Tx K mg) : Cls K (He.ga K "Block") := He.cls_ok (T.says.fact 93 rfl)
theorem k_Block (T : Tx K mg) : Mk K (He.ga K "Block") (He.ma K (He.ga K "Block") "__init__") := He.mkr_ok (T.says.fact 94 rfl)
theorem n_Block_steps (T : Tx K mg) : NoAttr K (He.ga K "Block") "steps" := He.noat_ok (T.says.fact 95 rfl)
theorem n_Block_places (T : Tx K mg) : NoAttr K (He.ga K "Block") "places" := He.noat_ok (T.says.fact 96 rfl)
theorem g_Store (T : Tx K mg) : mg "Store" = some (.ref (He.ga K "Store")) := T.glo_at 97 rfl
theorem c_Store (T : Tx K mg) : Cls K (He.ga K "Store") := He.cls_ok (T.says.fact 98 rfl)
theorem k_Store (T : Tx K mg) : Mk K (He.ga K "Store") (He.ma K (He.ga K "Store") "__init__") := He.mkr_ok (T.says.fact 99 rfl)
theorem n_Store_tree (T : Tx K mg) : NoAttr K (He.ga K "Store") "tree" := He.noat_ok (T.says.fact 100 rfl)
theorem n_Store_rows (T : Tx K mg) : NoAttr K (He.ga K "Store") "rows" := He.noat_ok (T.says.fact 101 rfl)
theorem m_Store_plant (T : Tx K mg) : Meth K (He.ga K "Store") "plant" (He.ma K (He.ga K "Store") "plant") := He.meth_ok (T.says.fact 102 rfl)
theorem m_Store_refusal_for (T : Tx K mg) : Meth K (He.ga K "Store") "refusal_for" (He.ma K (He.ga K "Store") "refusal_for") := He.meth_ok (T.says.fact 103 rfl)
theorem m_Store_refusal_for_two (T : Tx K mg) : Meth K (He.ga K "Store") "refusal_for_two" (He.ma K (He.ga K "Store") "refusal_for_two") := He.meth_ok (T.says.fact 104 rfl)
theorem m_Store_refusal_for_conflicts (T : Tx K mg) : Meth K (He.ga K "Store") "refusal_for_conflicts" (He.ma K (He.ga K "Store") "refusal_for_conflicts") := He.meth_ok (T.says.fact 105 rfl)
theorem m_Store_tree_of_row (T : Tx K mg) : Meth K (He.ga K "Store") "tree_of_row" (He.ma K (He.ga K "Store") "tree_of_row") := He.meth_ok (T.says.fact 106 rfl)
theorem m_Store_add_step (T : Tx K mg) : Meth K (He.ga K "Store") "add_step" (He.ma K (He.ga K "Store") "add_step") := He.meth_ok (T.says.fact 107 rfl)
theorem m_Store_shown (T : Tx K mg) : Meth K (He.ga K "Store") "shown" (He.ma K (He.ga K "Store") "shown") := He.meth_ok (T.says.fact 108 rfl)
theorem m_Store_outcome (T : Tx K mg) : Meth K (He.ga K "Store") "outcome" (He.ma K (He.ga K "Store") "outcome") := He.meth_ok (T.says.fact 109 rfl)
theorem m_Store_merge (T : Tx K mg) : Meth K (He.ga K "Store") "merge" (He.ma K (He.ga K "Store") "merge") := He.meth_ok (T.says.fact 110 rfl)
theorem m_Store_sides (T : Tx K mg) : Meth K (He.ga K "Store") "sides" (He.ma K (He.ga K "Store") "sides") := He.meth_ok (T.says.fact 111 rfl)
theorem m_Store_conflicts (T : Tx K mg) : Meth K (He.ga K "Store") "conflicts" (He.ma K (He.ga K "Store") "conflicts") := He.meth_ok (T.says.fact 112 rfl)
theorem m_Store_clean (T : Tx K mg) : Meth K (He.ga K "Store") "clean" (He.ma K (He.ga K "Store") "clean") := He.meth_ok (T.says.fact 113 rfl)
theorem m_Store_merge_all (T : Tx K mg) : Meth K (He.ga K "Store") "merge_all" (He.ma K (He.ga K "Store") "merge_all") := He.meth_ok (T.says.fact 114 rfl)
theorem m_Store_pull (T : Tx K mg) : Meth K (He.ga K "Store") "pull" (He.ma K (He.ga K "Store") "pull") := He.meth_ok (T.says.fact 115 rfl)
theorem m_Store_drop (T : Tx K mg) : Meth K (He.ga K "Store") "drop" (He.ma K (He.ga K "Store") "drop") := He.meth_ok (T.says.fact 116 rfl)
theorem g_Reader (T : Tx K mg) : mg "Reader" = some (.ref (He.ga K "Reader")) := T.glo_at 117 rfl
theorem c_Reader (T : Tx K mg) : Cls K (He.ga K "Reader") := He.cls_ok (T.says.fact 118 rfl)
theorem k_Reader (T : Tx K mg) : Mk K (He.ga K "Reader") (He.ma K (He.ga K "Reader") "__init__") := He.mkr_ok (T.says.fact 119 rfl)
theorem n_Reader_numbers (T : Tx K mg) : NoAttr K (He.ga K "Reader") "numbers" := He.noat_ok (T.says.fact 120 rfl)
theorem n_Reader_place (T : Tx K mg) : NoAttr K (He.ga K "Reader") "place" := He.noat_ok (T.says.fact 121 rfl)
theorem m_Reader_has_more (T : Tx K mg) : Meth K (He.ga K "Reader") "has_more" (He.ma K (He.ga K "Reader") "has_more") := He.meth_ok (T.says.fact 122 rfl)
theorem m_Reader_number (T : Tx K mg) : Meth K (He.ga K "Reader") "number" (He.ma K (He.ga K "Reader") "number") := He.meth_ok (T.says.fact 123 rfl)
theorem m_Reader_run (T : Tx K mg) : Meth K (He.ga K "Reader") "run" (He.ma K (He.ga K "Reader") "run") := He.meth_ok (T.says.fact 124 rfl)
theorem i_TOP_NAME (T : Tx K mg) : ∃ t, mg "TOP_NAME" = some (.int (9) t) := T.int_at 125 rfl
theorem i_TOP_TOKEN (T : Tx K mg) : ∃ t, mg "TOP_TOKEN" = some (.int (99) t) := T.int_at 126 rfl
theorem i_HUNK (T : Tx K mg) : ∃ t, mg "HUNK" = some (.int (0) t) := T.int_at 127 rfl
theorem i_SWAP (T : Tx K mg) : ∃ t, mg "SWAP" = some (.int (1) t) := T.int_at 128 rfl
theorem i_ADDED (T : Tx K mg) : ∃ t, mg "ADDED" = some (.int (2) t) := T.int_at 129 rfl
theorem i_REMOVED (T : Tx K mg) : ∃ t, mg "REMOVED" = some (.int (3) t) := T.int_at 130 rfl
theorem i_MOVED (T : Tx K mg) : ∃ t, mg "MOVED" = some (.int (4) t) := T.int_at 131 rfl
theorem i_TOP_PLACE (T : Tx K mg) : ∃ t, mg "TOP_PLACE" = some (.int (1000) t) := T.int_at 132 rfl
theorem i_MOST_TOKENS_steps (T : Tx K mg) : ∃ t, mg "MOST_TOKENS_steps" = some (.int (8) t) := T.int_at 133 rfl
theorem i_MOST_FILES (T : Tx K mg) : ∃ t, mg "MOST_FILES" = some (.int (6) t) := T.int_at 134 rfl
theorem i_MOST_TOKENS_trees (T : Tx K mg) : ∃ t, mg "MOST_TOKENS_trees" = some (.int (12) t) := T.int_at 135 rfl
theorem i_ROWS (T : Tx K mg) : ∃ t, mg "ROWS" = some (.int (4) t) := T.int_at 136 rfl
theorem i_MOST_STEPS (T : Tx K mg) : ∃ t, mg "MOST_STEPS" = some (.int (8) t) := T.int_at 137 rfl
theorem i_MOST_STEPS_PULLED (T : Tx K mg) : ∃ t, mg "MOST_STEPS_PULLED" = some (.int (24) t) := T.int_at 138 rfl
theorem i_NOT_WHOLE (T : Tx K mg) : ∃ t, mg "NOT_WHOLE" = some (.int (-1) t) := T.int_at 139 rfl
theorem i_NO_ROW (T : Tx K mg) : ∃ t, mg "NO_ROW" = some (.int (-2) t) := T.int_at 140 rfl
theorem i_SAME_ROW (T : Tx K mg) : ∃ t, mg "SAME_ROW" = some (.int (-3) t) := T.int_at 141 rfl
theorem i_NO_FIT (T : Tx K mg) : ∃ t, mg "NO_FIT" = some (.int (-4) t) := T.int_at 142 rfl
theorem i_TOO_MANY (T : Tx K mg) : ∃ t, mg "TOO_MANY" = some (.int (-6) t) := T.int_at 143 rfl
theorem i_NOT_MERGED (T : Tx K mg) : ∃ t, mg "NOT_MERGED" = some (.int (-7) t) := T.int_at 144 rfl
theorem i_NO_TREE (T : Tx K mg) : ∃ t, mg "NO_TREE" = some (.int (-8) t) := T.int_at 145 rfl
theorem i_TREE (T : Tx K mg) : ∃ t, mg "TREE" = some (.int (0) t) := T.int_at 146 rfl
theorem i_STEP (T : Tx K mg) : ∃ t, mg "STEP" = some (.int (1) t) := T.int_at 147 rfl
theorem i_SHOWN (T : Tx K mg) : ∃ t, mg "SHOWN" = some (.int (2) t) := T.int_at 148 rfl
theorem i_OUTCOME (T : Tx K mg) : ∃ t, mg "OUTCOME" = some (.int (3) t) := T.int_at 149 rfl
theorem i_MERGE (T : Tx K mg) : ∃ t, mg "MERGE" = some (.int (4) t) := T.int_at 150 rfl
theorem i_SIDES (T : Tx K mg) : ∃ t, mg "SIDES" = some (.int (5) t) := T.int_at 151 rfl
theorem i_CONFLICTS (T : Tx K mg) : ∃ t, mg "CONFLICTS" = some (.int (6) t) := T.int_at 152 rfl
theorem i_CLEAN (T : Tx K mg) : ∃ t, mg "CLEAN" = some (.int (7) t) := T.int_at 153 rfl
theorem i_ALL (T : Tx K mg) : ∃ t, mg "ALL" = some (.int (8) t) := T.int_at 154 rfl
theorem i_PULL (T : Tx K mg) : ∃ t, mg "PULL" = some (.int (9) t) := T.int_at 155 rfl
theorem i_DROP (T : Tx K mg) : ∃ t, mg "DROP" = some (.int (10) t) := T.int_at 156 rfl
theorem i_TWO (T : Tx K mg) : ∃ t, mg "TWO" = some (.int (11) t) := T.int_at 157 rfl
theorem z_len (T : Tx K mg) : mg "len" = none := T.free_at 158 rfl
theorem z_range (T : Tx K mg) : mg "range" = none := T.free_at 159 rfl
theorem z_enumerate (T : Tx K mg) : mg "enumerate" = none := T.free_at 160 rfl
theorem z_max (T : Tx K mg) : mg "max" = none := T.free_at 161 rfl
theorem z_sorted (T : Tx K mg) : mg "sorted" = none := T.free_at 162 rfl
theorem z_reversed (T : Tx K mg) : mg "reversed" = none := T.free_at 163 rfl
theorem z_list (T : Tx K mg) : mg "list" = none := T.free_at 164 rfl
theorem z_tuple (T : Tx K mg) : mg "tuple" = none := T.free_at 165 rfl
theorem z_dict (T : Tx K mg) : mg "dict" = none := T.free_at 166 rfl
theorem z_set (T : Tx K mg) : mg "set" = none := T.free_at 167 rfl
theorem z_isinstance (T : Tx K mg) : mg "isinstance" = none := T.free_at 168 rfl
theorem z_any (T : Tx K mg) : mg "any" = none := T.free_at 169 rfl
theorem z_all (T : Tx K mg) : mg "all" = none := T.free_at 170 rfl
theorem e_is_name : fns[0]? = some d_is_name := rfl
theorem e_are_tokens : fns[1]? = some d_are_tokens := rfl
theorem e_tokens_at : fns[2]? = some d_tokens_at := rfl
theorem e_with_file : fns[3]? = some d_with_file := rfl
theorem e_without_file : fns[4]? = some d_without_file := rfl
theorem e_Hunk_init : fns[5]? = some d_Hunk_init := rfl
theorem e_Hunk_names : fns[6]? = some d_Hunk_names := rfl
theorem e_Hunk_told : fns[7]? = some d_Hunk_told := rfl
theorem e_Hunk_turned : fns[8]? = some d_Hunk_turned := rfl
theorem e_Hunk_inside : fns[9]? = some d_Hunk_inside := rfl
theorem e_Hunk_standing_at : fns[10]? = some d_Hunk_standing_at := rfl
theorem e_Hunk_swapped : fns[11]? = some d_Hunk_swapped := rfl
theorem e_Hunk_fits : fns[12]? = some d_Hunk_fits := rfl
theorem e_Hunk_applied : fns[13]? = some d_Hunk_applied := rfl
theorem e_Swap_init : fns[14]? = some d_Swap_init := rfl
theorem e_Swap_names : fns[15]? = some d_Swap_names := rfl
theorem e_Swap_tokens : fns[16]? = some d_Swap_tokens := rfl
theorem e_Swap_told : fns[17]? = some d_Swap_told := rfl
theorem e_Swap_turned : fns[18]? = some d_Swap_turned := rfl
theorem e_Swap_inside : fns[19]? = some d_Swap_inside := rfl
theorem e_Swap_swapped_in : fns[20]? = some d_Swap_swapped_in := rfl
theorem e_Swap_fits : fns[21]? = some d_Swap_fits := rfl
theorem e_Swap_applied : fns[22]? = some d_Swap_applied := rfl
theorem e_Added_init : fns[23]? = some d_Added_init := rfl
theorem e_Added_names : fns[24]? = some d_Added_names := rfl
theorem e_Added_told : fns[25]? = some d_Added_told := rfl
theorem e_Added_turned : fns[26]? = some d_Added_turned := rfl
theorem e_Added_fits : fns[27]? = some d_Added_fits := rfl
theorem e_Added_applied : fns[28]? = some d_Added_applied := rfl
theorem e_Removed_init : fns[29]? = some d_Removed_init := rfl
theorem e_Removed_names : fns[30]? = some d_Removed_names := rfl
theorem e_Removed_told : fns[31]? = some d_Removed_told := rfl
theorem e_Removed_turned : fns[32]? = some d_Removed_turned := rfl
theorem e_Removed_fits : fns[33]? = some d_Removed_fits := rfl
theorem e_Removed_applied : fns[34]? = some d_Removed_applied := rfl
theorem e_Moved_init : fns[35]? = some d_Moved_init := rfl
theorem e_Moved_names : fns[36]? = some d_Moved_names := rfl
theorem e_Moved_told : fns[37]? = some d_Moved_told := rfl
theorem e_Moved_turned : fns[38]? = some d_Moved_turned := rfl
theorem e_Moved_fits : fns[39]? = some d_Moved_fits := rfl
theorem e_Moved_applied : fns[40]? = some d_Moved_applied := rfl
theorem e_hunk_of : fns[41]? = some d_hunk_of := rfl
theorem e_swap_of : fns[42]? = some d_swap_of := rfl
theorem e_added_or_removed_of : fns[43]? = some d_added_or_removed_of := rfl
theorem e_moved_of : fns[44]? = some d_moved_of := rfl
theorem e_step_of : fns[45]? = some d_step_of := rfl
theorem e_row_told : fns[46]? = some d_row_told := rfl
theorem e_row_turned : fns[47]? = some d_row_turned := rfl
theorem e_share_one : fns[48]? = some d_share_one := rfl
theorem e_is_inside : fns[49]? = some d_is_inside := rfl
theorem e_commuted : fns[50]? = some d_commuted := rfl
theorem e_commuted_in_file : fns[51]? = some d_commuted_in_file := rfl
theorem e_hunks_commuted : fns[52]? = some d_hunks_commuted := rfl
theorem e_step_brought_ahead : fns[53]? = some d_step_brought_ahead := rfl
theorem e_row_without : fns[54]? = some d_row_without := rfl
theorem e_row_brought_ahead : fns[55]? = some d_row_brought_ahead := rfl
theorem e_merged : fns[56]? = some d_merged := rfl
theorem e_Block_init : fns[57]? = some d_Block_init := rfl
theorem e_block_of : fns[58]? = some d_block_of := rfl
theorem e_blocks_of : fns[59]? = some d_blocks_of := rfl
theorem e_conflicting_pairs : fns[60]? = some d_conflicting_pairs := rfl
theorem e_first_conflicts : fns[61]? = some d_first_conflicts := rfl
theorem e_conflicting_steps : fns[62]? = some d_conflicting_steps := rfl
theorem e_left_of : fns[63]? = some d_left_of := rfl
theorem e_tree_of : fns[64]? = some d_tree_of := rfl
theorem e_tree_told : fns[65]? = some d_tree_told := rfl
theorem e_tree_after : fns[66]? = some d_tree_after := rfl
theorem e_Store_init : fns[67]? = some d_Store_init := rfl
theorem e_Store_plant : fns[68]? = some d_Store_plant := rfl
theorem e_Store_refusal_for : fns[69]? = some d_Store_refusal_for := rfl
theorem e_Store_refusal_for_two : fns[70]? = some d_Store_refusal_for_two := rfl
theorem e_Store_refusal_for_conflicts : fns[71]? = some d_Store_refusal_for_conflicts := rfl
theorem e_Store_tree_of_row : fns[72]? = some d_Store_tree_of_row := rfl
theorem e_Store_add_step : fns[73]? = some d_Store_add_step := rfl
theorem e_Store_shown : fns[74]? = some d_Store_shown := rfl
theorem e_Store_outcome : fns[75]? = some d_Store_outcome := rfl
theorem e_Store_merge : fns[76]? = some d_Store_merge := rfl
theorem e_Store_sides : fns[77]? = some d_Store_sides := rfl
theorem e_Store_conflicts : fns[78]? = some d_Store_conflicts := rfl
theorem e_Store_clean : fns[79]? = some d_Store_clean := rfl
theorem e_Store_merge_all : fns[80]? = some d_Store_merge_all := rfl
theorem e_Store_pull : fns[81]? = some d_Store_pull := rfl
theorem e_Store_drop : fns[82]? = some d_Store_drop := rfl
theorem e_two_merged : fns[83]? = some d_two_merged := rfl
theorem e_Reader_init : fns[84]? = some d_Reader_init := rfl
theorem e_Reader_has_more : fns[85]? = some d_Reader_has_more := rfl
theorem e_Reader_number : fns[86]? = some d_Reader_number := rfl
theorem e_Reader_run : fns[87]? = some d_Reader_run := rfl
theorem e_answer_of_one_row : fns[88]? = some d_answer_of_one_row := rfl
theorem e_answer_of_two_rows : fns[89]? = some d_answer_of_two_rows := rfl
theorem e_answer_now : fns[90]? = some d_answer_now := rfl
theorem e_answers : fns[91]? = some d_answers := rfl
end
/-! ### a def by its promise -/
/-- the def at a place of the text keeps a promise, wherever k calls fit -/
def Ok (K : PySem.W.Frag) (mg : Str → Option Value) (k : Nat) (p : Str × Option Str) (ps : List Str) (sp : Sp) : Prop :=
  ∃ fd : FuncData, Binds K fd ps [] ∧ PySem.W.keepIn K (.ref (He.fAd K p)) = true ∧ ∀ (P : Program) (w : World) (base : Heap), FnOk P w K mg base CX0 k (He.fAd K p) fd ps sp
theorem mk_ok {K : PySem.W.Frag} {mg : Str → Option Value} (T : Tx K mg) {i : Nat} {d : He.DefD} (e : fns[i]? = some d) (hd : d.dfl = []) (hk : d.kwd = []) {N ps : List Str} {k : Nat} {sp : Sp} (S : FnScope N ps d.scope)
    (hb : ∀ (kV doc pm : Value) (an : Option Addr) (cdv ct : Value) (us : List Value), us.length = ps.length → bindArgs (PySem.W.fnOf d.name d.qual d.params d.body d.scope .none kV doc pm an cdv ct) ⟨us, []⟩ = pure (ps.zip us))
    (len : ∀ vs H Q E, sp vs H Q E → vs.length = ps.length)
    (body : ∀ (P : Program) (w : World) (base : Heap) (f : Addr) (cdv : Value) (A : Around) (outer : List Env) (s : Shared) (H : Hp) (vs : List V) (Q : VK) (E : XK), Room k (A.deeper (envOfC d.qual d.scope s.heap.objs.size f cdv)) → sp vs H Q E →
      ∃ t, PSs (cxOf CX0 P w K mg base N d.qual d.scope f cdv A outer s H E).nox d.body t ∧ t { nx := fun _ H' => Q .non H', rt := Q } (start N vs) H) : Ok K mg (k + 1) d.at_ ps sp := by
  obtain ⟨fd, F⟩ := T.says.def_ i e
  have e1 : d.dvs K = [] := by rw [He.DefD.dvs, hd] <;> rfl
  have e2 : d.kws K = [] := by rw [He.DefD.kws, hk] <;> rfl
  rw [e1, e2] at F
  exact ⟨fd, F.bindsN hb, F.kp, fun P w base => F.ok S len fun cdv A outer s H vs Q E hr hs => (body P w base _ cdv A outer s H vs Q E hr hs).elim fun t z => ⟨t, z.1.nox, z.2⟩⟩
theorem Ok.up {K : PySem.W.Frag} {mg : Str → Option Value} {j k : Nat} {p : Str × Option Str} {ps : List Str} {sp : Sp} (o : Ok K mg j p ps sp) (h : j ≤ k) : Ok K mg k p ps sp := by
  obtain ⟨fd, a, b, c⟩ := o
  exact ⟨fd, a, b, fun P w base => (c P w base).mono h⟩
/-- a method of a class keeps a promise -/
def MOk (K : PySem.W.Frag) (mg : Str → Option Value) (k : Nat) (C : Addr) (m : Str) (sp : Sp) : Prop :=
  ∃ (f : Addr) (fd : FuncData) (ps : List Str), Cls K C ∧ Meth K C m f ∧ Binds K fd ps [] ∧ ∀ (P : Program) (w : World) (base : Heap), FnOk P w K mg base CX0 k f fd ps sp
theorem m_ok {K : PySem.W.Frag} {mg : Str → Option Value} {k : Nat} {c m : Str} {ps : List Str} {sp : Sp} (hc : Cls K (He.ga K c)) (hm : Meth K (He.ga K c) m (He.ma K (He.ga K c) m)) (o : Ok K mg k (c, some m) ps sp) : MOk K mg k (He.ga K c) m sp := by
  obtain ⟨fd, a, b, g⟩ := o
  exact ⟨_, fd, ps, hc, hm, a, g⟩
section
variable {X : Cx} {x m : Str} {p pos apos : Pos} {e o : Expr} {es : List Expr} {ta : TE} {t : TA} {k : Nat} {ps : List Str} {sp : Sp}
/-! ### calls, in short -/
theorem pe_f (O : Ok X.K X.mg k (x, none) ps sp) (hm : X.mg x = some (.ref (He.ga X.K x))) (hr : Room k X.A) (ha : PA X (e :: es) t) (hg : Gl X x := by rfl) (hdb : (x == ("__debug__" : Str)) = false := by decide)
    (he : starEach (e :: es) X.env = (false, eval e X.env) :: starEach es X.env := by rfl) (hpl : (backTo pos (starEach es X.env)).any (·.1) = false := by rfl) :
    PE X (.Call (.Name x p) (e :: es) [] pos) (tCall sp [] E0 t) := by
  obtain ⟨fd, hb, kp, F⟩ := O
  exact pe_call (F _ _ _) hr hg hm kp hb .nil pass0 ha hdb he hpl
theorem pe_gint {i : Int} (h : ∃ t, X.mg x = some (.int i t)) (hg : Gl X x := by rfl) (hd : (x == ("__debug__" : Str)) = false := by decide) : PE X (.Name x pos) (tC (.int i)) := by
  obtain ⟨t, h⟩ := h
  exact pe_glob hg h ⟨_, rfl⟩ hd
theorem pe_gref {a : Addr} (h : X.mg x = some (.ref a)) (hg : Gl X x := by rfl) (hd : (x == ("__debug__" : Str)) = false := by decide) : PE X (.Name x pos) (tC (.ref a)) := pe_glob hg h rfl hd
/-- o.m(..), the class told when it is read -/
def tMP (K : PySem.W.Frag) (mg : Str → Option Value) (k : Nat) (m : Str) (ta : TE) (t : TA) : TE := fun σ H Q => ta σ H fun y H1 => ∃ (C a dx : Addr) (fs : List (Str × V)) (sp : Sp), MOk K mg k C m sp ∧ y = .ref a ∧ H1 a = some (.ins C dx fs) ∧ fs.lookup m = none ∧
  t σ H1 fun vs H2 => sp (y :: vs) H2 Q E0
theorem pe_mp {pl : Sem Bool} (he : PE X o ta) (hr : Room k X.A) (ha : PA X (e :: es) t)
    (hst : starEach (e :: es) X.env = (false, eval e X.env) :: starEach es X.env := by rfl) (hpl : (backTo pos (starEach es X.env)).any (·.1) = false := by rfl)
    (ht : eval (.Call (.Attribute o m apos) (e :: es) [] pos) X.env = (do
      let ov ← eval o X.env
      standAt apos.atName
      let (g, lead) ← holding [ov] (getMethod ov m pl)
      callWith pos g lead (backTo pos (starEach (e :: es) X.env)) (backToKw pos (keywordEach [] X.env))) := by rfl) :
    PE X (.Call (.Attribute o m apos) (e :: es) [] pos) (tMP X.K X.mg k m ta t) := by
  refine ⟨fun pins s σ H Q I h => ?_⟩
  refine PySem.W.methodCall_KW (pl := pl) (thn (he.run pins s σ H _ I h) fun u s1 ⟨y, H1, I1, ry, C, a, dx, fs, sp, ⟨f, fd, ps, c, hm, hb, F⟩, ey, ea, l, q⟩ => ?_) ht
  subst ey
  cases (show u = Value.ref a from ry)
  refine getmeth_ok I1 ea c hm l (PySem.W.callWith_K (first := [.ref a]) (h₀ := X.base) I.ok.mod.kin hm.kp (thn (ha.run pos pins s1 σ H1 _ I1 q) fun us s2 ⟨vs, H2, I2, r, q2⟩ => ⟨I2.kIn, ?_⟩) hst hpl)
  refine run_fn (us := .ref a :: us) (vs := .ref a :: vs) (dvs := []) (ds := []) (E := E0) (F _ _ _) hr hb .nil pass0 I2 (.cons rfl r) ?_
  rw [List.append_nil]
  exact q2
theorem pe_mp0 {pl : Sem Bool} (he : PE X o ta) (hr : Room k X.A)
    (ht : eval (.Call (.Attribute o m apos) [] [] pos) X.env = (do
      let ov ← eval o X.env
      standAt apos.atName
      let (g, lead) ← holding [ov] (getMethod ov m pl)
      callWith pos g lead (backTo pos (starEach [] X.env)) (backToKw pos (keywordEach [] X.env))) := by rfl) :
    PE X (.Call (.Attribute o m apos) [] [] pos) (tMP X.K X.mg k m ta tNil) := by
  refine ⟨fun pins s σ H Q I h => ?_⟩
  refine PySem.W.methodCall_KW (pl := pl) (thn (he.run pins s σ H _ I h) fun u s1 ⟨y, H1, I1, ry, C, a, dx, fs, sp, ⟨f, fd, ps, c, hm, hb, F⟩, ey, ea, l, q⟩ => ?_) ht
  subst ey
  cases (show u = Value.ref a from ry)
  refine getmeth_ok I1 ea c hm l (PySem.W.callWith_K0 (first := [.ref a]) I1.kIn hm.kp ?_)
  exact run_fn (us := [.ref a]) (vs := [.ref a]) (dvs := []) (ds := []) (E := E0) (F _ _ _) hr hb .nil pass0 I1 (.cons rfl .nil) q
end
end Rw
end
section
set_option Elab.async false
set_option linter.all false
set_option maxRecDepth 100000
set_option maxHeartbeats 4000000
namespace Rw
open PySem PySem.Spec PyProof.Rows L2
theorem sc_is_name : FnScope ["number"] ["number"] (defScope s_is_name) := ⟨rfl, rfl, rfl, by decide +kernel, rfl, by decide +kernel, by decide +kernel⟩
theorem sc_are_tokens : FnScope ["numbers", "number"] ["numbers"] (defScope s_are_tokens) := ⟨rfl, rfl, rfl, by decide +kernel, rfl, by decide +kernel, by decide +kernel⟩
theorem sc_tokens_at : FnScope ["numbers", "place", "most", "start", "tokens"] ["numbers", "place", "most"] (defScope s_tokens_at) := ⟨rfl, rfl, rfl, by decide +kernel, rfl, by decide +kernel, by decide +kernel⟩
theorem sc_with_file : FnScope ["tree", "name", "tokens", "result"] ["tree", "name", "tokens"] (defScope s_with_file) := ⟨rfl, rfl, rfl, by decide +kernel, rfl, by decide +kernel, by decide +kernel⟩
theorem sc_without_file : FnScope ["tree", "name", "result"] ["tree", "name"] (defScope s_without_file) := ⟨rfl, rfl, rfl, by decide +kernel, rfl, by decide +kernel, by decide +kernel⟩
theorem sc_Hunk_init : FnScope ["self", "file", "place", "old", "new"] ["self", "file", "place", "old", "new"] (defScope s_Hunk_init) := ⟨rfl, rfl, rfl, by decide +kernel, rfl, by decide +kernel, by decide +kernel⟩
theorem sc_Hunk_names : FnScope ["self"] ["self"] (defScope s_Hunk_names) := ⟨rfl, rfl, rfl, by decide +kernel, rfl, by decide +kernel, by decide +kernel⟩
theorem sc_Hunk_told : FnScope ["self", "ahead"] ["self"] (defScope s_Hunk_told) := ⟨rfl, rfl, rfl, by decide +kernel, rfl, by decide +kernel, by decide +kernel⟩
theorem sc_Hunk_turned : FnScope ["self"] ["self"] (defScope s_Hunk_turned) := ⟨rfl, rfl, rfl, by decide +kernel, rfl, by decide +kernel, by decide +kernel⟩
theorem sc_Hunk_inside : FnScope ["self", "file"] ["self", "file"] (defScope s_Hunk_inside) := ⟨rfl, rfl, rfl, by decide +kernel, rfl, by decide +kernel, by decide +kernel⟩
theorem sc_Hunk_standing_at : FnScope ["self", "place"] ["self", "place"] (defScope s_Hunk_standing_at) := ⟨rfl, rfl, rfl, by decide +kernel, rfl, by decide +kernel, by decide +kernel⟩
theorem sc_Hunk_swapped : FnScope ["self", "swap"] ["self", "swap"] (defScope s_Hunk_swapped) := ⟨rfl, rfl, rfl, by decide +kernel, rfl, by decide +kernel, by decide +kernel⟩
theorem sc_Hunk_fits : FnScope ["self", "tree"] ["self", "tree"] (defScope s_Hunk_fits) := ⟨rfl, rfl, rfl, by decide +kernel, rfl, by decide +kernel, by decide +kernel⟩
theorem sc_Hunk_applied : FnScope ["self", "tree", "tokens", "behind"] ["self", "tree"] (defScope s_Hunk_applied) := ⟨rfl, rfl, rfl, by decide +kernel, rfl, by decide +kernel, by decide +kernel⟩
theorem sc_Swap_init : FnScope ["self", "file", "one", "other"] ["self", "file", "one", "other"] (defScope s_Swap_init) := ⟨rfl, rfl, rfl, by decide +kernel, rfl, by decide +kernel, by decide +kernel⟩
theorem sc_Swap_names : FnScope ["self"] ["self"] (defScope s_Swap_names) := ⟨rfl, rfl, rfl, by decide +kernel, rfl, by decide +kernel, by decide +kernel⟩
theorem sc_Swap_tokens : FnScope ["self"] ["self"] (defScope s_Swap_tokens) := ⟨rfl, rfl, rfl, by decide +kernel, rfl, by decide +kernel, by decide +kernel⟩
theorem sc_Swap_told : FnScope ["self"] ["self"] (defScope s_Swap_told) := ⟨rfl, rfl, rfl, by decide +kernel, rfl, by decide +kernel, by decide +kernel⟩
theorem sc_Swap_turned : FnScope ["self"] ["self"] (defScope s_Swap_turned) := ⟨rfl, rfl, rfl, by decide +kernel, rfl, by decide +kernel, by decide +kernel⟩
theorem sc_Swap_inside : FnScope ["self", "file"] ["self", "file"] (defScope s_Swap_inside) := ⟨rfl, rfl, rfl, by decide +kernel, rfl, by decide +kernel, by decide +kernel⟩
theorem sc_Swap_swapped_in : FnScope ["self", "tokens", "becomes", "token"] ["self", "tokens"] (defScope s_Swap_swapped_in) := ⟨rfl, rfl, rfl, by decide +kernel, rfl, by decide +kernel, by decide +kernel⟩
theorem sc_Swap_fits : FnScope ["self", "tree"] ["self", "tree"] (defScope s_Swap_fits) := ⟨rfl, rfl, rfl, by decide +kernel, rfl, by decide +kernel, by decide +kernel⟩
theorem sc_Swap_applied : FnScope ["self", "tree"] ["self", "tree"] (defScope s_Swap_applied) := ⟨rfl, rfl, rfl, by decide +kernel, rfl, by decide +kernel, by decide +kernel⟩
theorem sc_Added_init : FnScope ["self", "file"] ["self", "file"] (defScope s_Added_init) := ⟨rfl, rfl, rfl, by decide +kernel, rfl, by decide +kernel, by decide +kernel⟩
theorem sc_Added_names : FnScope ["self"] ["self"] (defScope s_Added_names) := ⟨rfl, rfl, rfl, by decide +kernel, rfl, by decide +kernel, by decide +kernel⟩
theorem sc_Added_told : FnScope ["self"] ["self"] (defScope s_Added_told) := ⟨rfl, rfl, rfl, by decide +kernel, rfl, by decide +kernel, by decide +kernel⟩
theorem sc_Added_turned : FnScope ["self"] ["self"] (defScope s_Added_turned) := ⟨rfl, rfl, rfl, by decide +kernel, rfl, by decide +kernel, by decide +kernel⟩
theorem sc_Added_fits : FnScope ["self", "tree"] ["self", "tree"] (defScope s_Added_fits) := ⟨rfl, rfl, rfl, by decide +kernel, rfl, by decide +kernel, by decide +kernel⟩
theorem sc_Added_applied : FnScope ["self", "tree"] ["self", "tree"] (defScope s_Added_applied) := ⟨rfl, rfl, rfl, by decide +kernel, rfl, by decide +kernel, by decide +kernel⟩
theorem sc_Removed_init : FnScope ["self", "file"] ["self", "file"] (defScope s_Removed_init) := ⟨rfl, rfl, rfl, by decide +kernel, rfl, by decide +kernel, by decide +kernel⟩
theorem sc_Removed_names : FnScope ["self"] ["self"] (defScope s_Removed_names) := ⟨rfl, rfl, rfl, by decide +kernel, rfl, by decide +kernel, by decide +kernel⟩
theorem sc_Removed_told : FnScope ["self"] ["self"] (defScope s_Removed_told) := ⟨rfl, rfl, rfl, by decide +kernel, rfl, by decide +kernel, by decide +kernel⟩
theorem sc_Removed_turned : FnScope ["self"] ["self"] (defScope s_Removed_turned) := ⟨rfl, rfl, rfl, by decide +kernel, rfl, by decide +kernel, by decide +kernel⟩
theorem sc_Removed_fits : FnScope ["self", "tree"] ["self", "tree"] (defScope s_Removed_fits) := ⟨rfl, rfl, rfl, by decide +kernel, rfl, by decide +kernel, by decide +kernel⟩
theorem sc_Removed_applied : FnScope ["self", "tree"] ["self", "tree"] (defScope s_Removed_applied) := ⟨rfl, rfl, rfl, by decide +kernel, rfl, by decide +kernel, by decide +kernel⟩
theorem sc_Moved_init : FnScope ["self", "old_name", "new_name"] ["self", "old_name", "new_name"] (defScope s_Moved_init) := ⟨rfl, rfl, rfl, by decide +kernel, rfl, by decide +kernel, by decide +kernel⟩
theorem sc_Moved_names : FnScope ["self"] ["self"] (defScope s_Moved_names) := ⟨rfl, rfl, rfl, by decide +kernel, rfl, by decide +kernel, by decide +kernel⟩
theorem sc_Moved_told : FnScope ["self"] ["self"] (defScope s_Moved_told) := ⟨rfl, rfl, rfl, by decide +kernel, rfl, by decide +kernel, by decide +kernel⟩
theorem sc_Moved_turned : FnScope ["self"] ["self"] (defScope s_Moved_turned) := ⟨rfl, rfl, rfl, by decide +kernel, rfl, by decide +kernel, by decide +kernel⟩
theorem sc_Moved_fits : FnScope ["self", "tree"] ["self", "tree"] (defScope s_Moved_fits) := ⟨rfl, rfl, rfl, by decide +kernel, rfl, by decide +kernel, by decide +kernel⟩
theorem sc_Moved_applied : FnScope ["self", "tree"] ["self", "tree"] (defScope s_Moved_applied) := ⟨rfl, rfl, rfl, by decide +kernel, rfl, by decide +kernel, by decide +kernel⟩
theorem sc_hunk_of : FnScope ["numbers", "old", "new"] ["numbers"] (defScope s_hunk_of) := ⟨rfl, rfl, rfl, by decide +kernel, rfl, by decide +kernel, by decide +kernel⟩
theorem sc_swap_of : FnScope ["numbers"] ["numbers"] (defScope s_swap_of) := ⟨rfl, rfl, rfl, by decide +kernel, rfl, by decide +kernel, by decide +kernel⟩
theorem sc_added_or_removed_of : FnScope ["numbers"] ["numbers"] (defScope s_added_or_removed_of) := ⟨rfl, rfl, rfl, by decide +kernel, rfl, by decide +kernel, by decide +kernel⟩
theorem sc_moved_of : FnScope ["numbers"] ["numbers"] (defScope s_moved_of) := ⟨rfl, rfl, rfl, by decide +kernel, rfl, by decide +kernel, by decide +kernel⟩
theorem sc_step_of : FnScope ["numbers", "kind"] ["numbers"] (defScope s_step_of) := ⟨rfl, rfl, rfl, by decide +kernel, rfl, by decide +kernel, by decide +kernel⟩
theorem sc_row_told : FnScope ["row", "told", "step"] ["row"] (defScope s_row_told) := ⟨rfl, rfl, rfl, by decide +kernel, rfl, by decide +kernel, by decide +kernel⟩
theorem sc_row_turned : FnScope ["row", "step"] ["row"] (defScope s_row_turned) := ⟨rfl, rfl, rfl, by decide +kernel, rfl, by decide +kernel, by decide +kernel⟩
theorem sc_share_one : FnScope ["some", "others", "value"] ["some", "others"] (defScope s_share_one) := ⟨rfl, rfl, rfl, by decide +kernel, rfl, by decide +kernel, by decide +kernel⟩
theorem sc_is_inside : FnScope ["step"] ["step"] (defScope s_is_inside) := ⟨rfl, rfl, rfl, by decide +kernel, rfl, by decide +kernel, by decide +kernel⟩
theorem sc_commuted : FnScope ["step", "behind"] ["step", "behind"] (defScope s_commuted) := ⟨rfl, rfl, rfl, by decide +kernel, rfl, by decide +kernel, by decide +kernel⟩
theorem sc_commuted_in_file : FnScope ["step", "behind"] ["step", "behind"] (defScope s_commuted_in_file) := ⟨rfl, rfl, rfl, by decide +kernel, rfl, by decide +kernel, by decide +kernel⟩
theorem sc_hunks_commuted : FnScope ["step", "behind", "place"] ["step", "behind"] (defScope s_hunks_commuted) := ⟨rfl, rfl, rfl, by decide +kernel, rfl, by decide +kernel, by decide +kernel⟩
theorem sc_step_brought_ahead : FnScope ["row", "step", "row_behind", "other", "both"] ["row", "step"] (defScope s_step_brought_ahead) := ⟨rfl, rfl, rfl, by decide +kernel, rfl, by decide +kernel, by decide +kernel⟩
theorem sc_row_without : FnScope ["step", "row", "row_ahead", "other", "both"] ["step", "row"] (defScope s_row_without) := ⟨rfl, rfl, rfl, by decide +kernel, rfl, by decide +kernel, by decide +kernel⟩
theorem sc_row_brought_ahead : FnScope ["row", "other", "ahead", "step", "both"] ["row", "other"] (defScope s_row_brought_ahead) := ⟨rfl, rfl, rfl, by decide +kernel, rfl, by decide +kernel, by decide +kernel⟩
theorem sc_merged : FnScope ["row", "other", "both"] ["row", "other"] (defScope s_merged) := ⟨rfl, rfl, rfl, by decide +kernel, rfl, by decide +kernel, by decide +kernel⟩
theorem sc_Block_init : FnScope ["self", "steps", "places"] ["self", "steps", "places"] (defScope s_Block_init) := ⟨rfl, rfl, rfl, by decide +kernel, rfl, by decide +kernel, by decide +kernel⟩
theorem sc_block_of : FnScope ["row", "place", "steps", "places", "ahead", "steps_alone"] ["row", "place"] (defScope s_block_of) := ⟨rfl, rfl, rfl, by decide +kernel, rfl, by decide +kernel, by decide +kernel⟩
theorem sc_blocks_of : FnScope ["row", "place"] ["row"] (defScope s_blocks_of) := ⟨rfl, rfl, rfl, by decide +kernel, rfl, by decide +kernel, by decide +kernel⟩
theorem sc_conflicting_pairs : FnScope ["blocks", "other_blocks", "pairs", "place", "block", "other_place", "other_block"] ["blocks", "other_blocks"] (defScope s_conflicting_pairs) := ⟨rfl, rfl, rfl, by decide +kernel, rfl, by decide +kernel, by decide +kernel⟩
theorem sc_first_conflicts : FnScope ["row", "other", "blocks", "other_blocks", "pairs", "result", "pair", "places", "other_places", "one"] ["row", "other"] (defScope s_first_conflicts) := ⟨rfl, rfl, rfl, by decide +kernel, rfl, by decide +kernel, by decide +kernel⟩
theorem sc_conflicting_steps : FnScope ["row", "other", "pairs", "pair"] ["row", "other"] (defScope s_conflicting_steps) := ⟨rfl, rfl, rfl, by decide +kernel, rfl, by decide +kernel, by decide +kernel⟩
theorem sc_left_of : FnScope ["row", "places", "place"] ["row", "places"] (defScope s_left_of) := ⟨rfl, rfl, rfl, by decide +kernel, rfl, by decide +kernel, by decide +kernel⟩
theorem sc_tree_of : FnScope ["numbers", "tree", "place", "last", "file", "tokens"] ["numbers"] (defScope s_tree_of) := ⟨rfl, rfl, rfl, by decide +kernel, rfl, by decide +kernel, by decide +kernel⟩
theorem sc_tree_told : FnScope ["tree", "told", "name"] ["tree"] (defScope s_tree_told) := ⟨rfl, rfl, rfl, by decide +kernel, rfl, by decide +kernel, by decide +kernel⟩
theorem sc_tree_after : FnScope ["tree", "row", "step"] ["tree", "row"] (defScope s_tree_after) := ⟨rfl, rfl, rfl, by decide +kernel, rfl, by decide +kernel, by decide +kernel⟩
theorem sc_Store_init : FnScope ["self"] ["self"] (defScope s_Store_init) := ⟨rfl, rfl, rfl, by decide +kernel, rfl, by decide +kernel, by decide +kernel⟩
theorem sc_Store_plant : FnScope ["self", "numbers", "tree", "number"] ["self", "numbers"] (defScope s_Store_plant) := ⟨rfl, rfl, rfl, by decide +kernel, rfl, by decide +kernel, by decide +kernel⟩
theorem sc_Store_refusal_for : FnScope ["self", "rows", "row"] ["self", "rows"] (defScope s_Store_refusal_for) := ⟨rfl, rfl, rfl, by decide +kernel, rfl, by decide +kernel, by decide +kernel⟩
theorem sc_Store_refusal_for_two : FnScope ["self", "row", "other", "refusal"] ["self", "row", "other"] (defScope s_Store_refusal_for_two) := ⟨rfl, rfl, rfl, by decide +kernel, rfl, by decide +kernel, by decide +kernel⟩
theorem sc_Store_refusal_for_conflicts : FnScope ["self", "row", "other", "refusal"] ["self", "row", "other"] (defScope s_Store_refusal_for_conflicts) := ⟨rfl, rfl, rfl, by decide +kernel, rfl, by decide +kernel, by decide +kernel⟩
theorem sc_Store_tree_of_row : FnScope ["self", "row"] ["self", "row"] (defScope s_Store_tree_of_row) := ⟨rfl, rfl, rfl, by decide +kernel, rfl, by decide +kernel, by decide +kernel⟩
theorem sc_Store_add_step : FnScope ["self", "row", "numbers", "refusal", "step", "place"] ["self", "row", "numbers"] (defScope s_Store_add_step) := ⟨rfl, rfl, rfl, by decide +kernel, rfl, by decide +kernel, by decide +kernel⟩
theorem sc_Store_shown : FnScope ["self", "row", "refusal"] ["self", "row"] (defScope s_Store_shown) := ⟨rfl, rfl, rfl, by decide +kernel, rfl, by decide +kernel, by decide +kernel⟩
theorem sc_Store_outcome : FnScope ["self", "row", "refusal"] ["self", "row"] (defScope s_Store_outcome) := ⟨rfl, rfl, rfl, by decide +kernel, rfl, by decide +kernel, by decide +kernel⟩
theorem sc_Store_merge : FnScope ["self", "row", "other", "refusal", "both"] ["self", "row", "other"] (defScope s_Store_merge) := ⟨rfl, rfl, rfl, by decide +kernel, rfl, by decide +kernel, by decide +kernel⟩
theorem sc_Store_sides : FnScope ["self", "row", "other", "refusal", "both"] ["self", "row", "other"] (defScope s_Store_sides) := ⟨rfl, rfl, rfl, by decide +kernel, rfl, by decide +kernel, by decide +kernel⟩
theorem sc_Store_conflicts : FnScope ["self", "row", "other", "refusal", "pairs", "answer", "pair"] ["self", "row", "other"] (defScope s_Store_conflicts) := ⟨rfl, rfl, rfl, by decide +kernel, rfl, by decide +kernel, by decide +kernel⟩
theorem sc_Store_clean : FnScope ["self", "row", "other", "refusal", "places", "left", "both", "told"] ["self", "row", "other"] (defScope s_Store_clean) := ⟨rfl, rfl, rfl, by decide +kernel, rfl, by decide +kernel, by decide +kernel⟩
theorem sc_Store_merge_all : FnScope ["self", "rows", "refusal", "there", "place", "row", "both"] ["self", "rows"] (defScope s_Store_merge_all) := ⟨rfl, rfl, rfl, by decide +kernel, rfl, by decide +kernel, by decide +kernel⟩
theorem sc_Store_pull : FnScope ["self", "row", "other", "refusal", "both", "pulled"] ["self", "row", "other"] (defScope s_Store_pull) := ⟨rfl, rfl, rfl, by decide +kernel, rfl, by decide +kernel, by decide +kernel⟩
theorem sc_Store_drop : FnScope ["self", "row", "refusal"] ["self", "row"] (defScope s_Store_drop) := ⟨rfl, rfl, rfl, by decide +kernel, rfl, by decide +kernel, by decide +kernel⟩
theorem sc_two_merged : FnScope ["numbers", "other_numbers", "step", "other", "both"] ["numbers", "other_numbers"] (defScope s_two_merged) := ⟨rfl, rfl, rfl, by decide +kernel, rfl, by decide +kernel, by decide +kernel⟩
theorem sc_Reader_init : FnScope ["self", "numbers"] ["self", "numbers"] (defScope s_Reader_init) := ⟨rfl, rfl, rfl, by decide +kernel, rfl, by decide +kernel, by decide +kernel⟩
theorem sc_Reader_has_more : FnScope ["self"] ["self"] (defScope s_Reader_has_more) := ⟨rfl, rfl, rfl, by decide +kernel, rfl, by decide +kernel, by decide +kernel⟩
theorem sc_Reader_number : FnScope ["self"] ["self"] (defScope s_Reader_number) := ⟨rfl, rfl, rfl, by decide +kernel, rfl, by decide +kernel, by decide +kernel⟩
theorem sc_Reader_run : FnScope ["self", "count"] ["self"] (defScope s_Reader_run) := ⟨rfl, rfl, rfl, by decide +kernel, rfl, by decide +kernel, by decide +kernel⟩
theorem sc_answer_of_one_row : FnScope ["store", "call", "row"] ["store", "call", "row"] (defScope s_answer_of_one_row) := ⟨rfl, rfl, rfl, by decide +kernel, rfl, by decide +kernel, by decide +kernel⟩
theorem sc_answer_of_two_rows : FnScope ["store", "call", "row", "other"] ["store", "call", "row", "other"] (defScope s_answer_of_two_rows) := ⟨rfl, rfl, rfl, by decide +kernel, rfl, by decide +kernel, by decide +kernel⟩
theorem sc_answer_now : FnScope ["store", "reader", "call", "row", "numbers"] ["store", "reader"] (defScope s_answer_now) := ⟨rfl, rfl, rfl, by decide +kernel, rfl, by decide +kernel, by decide +kernel⟩
theorem sc_answers : FnScope ["calls", "store", "reader", "given", "answer"] ["calls"] (defScope s_answers) := ⟨rfl, rfl, rfl, by decide +kernel, rfl, by decide +kernel, by decide +kernel⟩
abbrev nm_are_tokens : List Str := ["numbers", "number"]
abbrev nm_Swap_swapped_in : List Str := ["self", "tokens", "becomes", "token"]
abbrev nm_row_turned : List Str := ["row", "step"]
abbrev nm_share_one : List Str := ["some", "others", "value"]
abbrev nm_blocks_of : List Str := ["row", "place"]
abbrev nm_first_conflicts : List Str := ["row", "other", "blocks", "other_blocks", "pairs", "result", "pair", "places", "other_places", "one"]
abbrev nm_conflicting_steps : List Str := ["row", "other", "pairs", "pair"]
abbrev nm_Store_plant : List Str := ["self", "numbers", "tree", "number"]
abbrev nm_Store_refusal_for : List Str := ["self", "rows", "row"]
/-! ### rules that the layer lacks -/
section
variable {X : Cx} {x : Str} {p pos : Pos} {e tg it : Expr} {es : List Expr} {t : TA} {k : Nat} {ps : List Str} {sp : Sp}
theorem pi_or {w1 w2 : TI} (h1 : PI X tg it w1) (h2 : PI X tg it w2) : PI X tg it (fun σ H R => w1 σ H R ∨ w2 σ H R) :=
  ⟨fun pins s σ H R I h => h.elim (h1.run pins s σ H R I) (h2.run pins s σ H R I)⟩
theorem pe_mk {c : Str} (O : Ok X.K X.mg k (c, some "__init__") ps sp) (M : Mk X.K (He.ga X.K c) (He.ma X.K (He.ga X.K c) "__init__")) (hm : X.mg c = some (.ref (He.ga X.K c))) (hr : Room (k + 1) X.A) (ha : PA X (e :: es) t) (hg : Gl X c := by rfl)
    (hdb : (c == ("__debug__" : Str)) = false := by decide) (he : starEach (e :: es) X.env = (false, eval e X.env) :: starEach es X.env := by rfl) (hpl : (backTo pos (starEach es X.env)).any (·.1) = false := by rfl) :
    PE X (.Call (.Name c p) (e :: es) [] pos) (tMake (He.ga X.K c) sp [] E0 t) := by
  obtain ⟨fd, hb, kp, F⟩ := O
  exact pe_make M (F _ _ _) hr hg hm hb .nil pass0 ha hdb he hpl
theorem pe_mk0 {c : Str} (O : Ok X.K X.mg k (c, some "__init__") ps sp) (M : Mk X.K (He.ga X.K c) (He.ma X.K (He.ga X.K c) "__init__")) (hm : X.mg c = some (.ref (He.ga X.K c))) (hr : Room (k + 1) X.A) (hg : Gl X c := by rfl)
    (hdb : (c == ("__debug__" : Str)) = false := by decide) : PE X (.Call (.Name c p) [] [] pos) (tMake (He.ga X.K c) sp [] E0 tNil) := by
  obtain ⟨fd, hb, kp, F⟩ := O
  exact pe_make0 M (F _ _ _) hr hg hm hb .nil pass0 hdb
def rCopyD : List V → Hp → VK → Prop := fun xs H Q => ∃ a kvs, xs = [V.ref a] ∧ H a = some (.dK kvs) ∧ ∀ q, H q = none → Q (.ref q) (upd H q (.dK kvs))
theorem call_dcopy : CallR X (.type "dict") rCopyD := by
  intro pins s σ H xs us Q I r h
  obtain ⟨a, kvs, rfl, e, q⟩ := h
  obtain ⟨u, rfl, ru⟩ := vals1 r
  cases (show u = Value.ref a from ru)
  exact d_copyOf I (.inl e) fun b s' hb I' => ⟨.ref b, _, I', rfl, q b hb⟩
def rExtendT : V → List V → Hp → VK → Prop := fun x vs H Q => ∃ l b xs zs, x = .ref l ∧ vs = [.ref b] ∧ H l = some (.lst xs) ∧ H b = some (.tup zs) ∧ xs.length + zs.length ≤ sizeLine ∧ Q .non (upd H l (.lst (xs ++ zs)))
theorem ext_tup {l b : Addr} {a1 a2 : Array Value} {n1 : Nat} (hs : a1.size + a2.size ≤ sizeLine) : Meets (Builtin.«list.extend» ⟨[.ref l, .ref b], []⟩) (fun _ R s => s.heap.get? l = some { cls := .type "list", data := .seq a1 n1 } ∧
    IsTup s.heap b a2 ∧ R (.ok (.ret Value.none)) { s with heap := s.heap.update l (Obj.mapSeq (· ++ a2)) }) := by
  intro prog w A R s ⟨hl, ⟨o, ho, hc, n2, hd⟩, hR⟩
  show wpAny _ A.in1 (Builtin.List.listExtendWith (.ref l) (.ref b) .none) _ _ s
  unfold Builtin.List.listExtendWith
  refine wpAny_bind (wpAny_typeOf ⟨o, ho, hc⟩ ?_)
  have h1 : (Builtin.List.listSameRef (.ref l) (.ref b) || Value.type "tuple" == Value.type "list" || Value.type "tuple" == Value.type "tuple") = true := by simp
  have h2 : (!a1.isEmpty && Builtin.List.listTooLong (a1.size + a2.size)) = false := by
    have : Builtin.List.listTooLong (a1.size + a2.size) = false := decide_eq_false (by omega)
    rw [this, Bool.and_false]
  simp only [h1, if_true]
  refine wpAny_bind ?_
  unfold Builtin.List.listItems
  refine wpAny_bind (wpAny_seqItems ho hd (wpAny_pure ?_))
  refine wpAny_bind (wpAny_bind (wpAny_seqItems hl rfl (wpAny_pure ?_)))
  simp only [h2, if_false, Bool.false_eq_true]
  show wpAny _ A.in1 (updateSeq l (· ++ a2) >>= fun _ => ret .none) _ _ s
  refine wpAny_bind (wpAny_updateSeq hl rfl ?_ (by omega) (by show (a1 ++ a2).size ≤ _; rw [Array.size_append]; omega))
  exact wpAny_pure hR
theorem mt_extendT : MtM X "list.extend" rExtendT := by
  intro pins s σ H x vs v us Q I rx rv h
  obtain ⟨l, b, xs, zs, rfl, rfl, hH, hB, hz, q⟩ := h
  cases rx
  obtain ⟨u, rfl, ru⟩ := rv.one
  cases ru
  obtain ⟨z, its, n, r, hl, e⟩ := I.lstM hH
  obtain ⟨its2, r2, e2, _⟩ := I.tuple (SqT.of (K := X.K) hB)
  have l2 := r2.length
  refine call_meets PySem.F.slot_list_extend ⟨_, e, rfl⟩ PySem.F.entry_list_extend (PySem.F.args_list_extend_2 _ _) (ext_tup (by rw [List.size_toArray, List.size_toArray]; omega)) ⟨e, e2, ?_⟩
  refine ⟨.non, _, I.lset (its' := its ++ its2) hH e (by simp) (r.append r2) ?_, rfl, q⟩
  rw [List.length_append]
  omega
end
/-! ### what stands for a step, a row, a tree -/
abbrev toks (l : List Nat) : List V := l.map fun (n : Nat) => V.int (n : Int)
def StepV (K : PySem.W.Frag) (H : Hp) (v : V) (p : VapatBase.Step) : Prop := wf p ∧ ∃ x dx, v = .ref x ∧ match p with
  | .hunk f a o n => ∃ po pn, H x = some (.ins (He.ga K "Hunk") dx [("file", .int (f : Int)), ("place", .int (a : Int)), ("old", .ref po), ("new", .ref pn)]) ∧ H po = some (.tup (toks o)) ∧ H pn = some (.tup (toks n))
  | .swap f a b => H x = some (.ins (He.ga K "Swap") dx [("file", .int (f : Int)), ("one", .int (a : Int)), ("other", .int (b : Int))])
  | .add f => H x = some (.ins (He.ga K "Added") dx [("file", .int (f : Int))])
  | .remove f => H x = some (.ins (He.ga K "Removed") dx [("file", .int (f : Int))])
  | .move f g => H x = some (.ins (He.ga K "Moved") dx [("old_name", .int (f : Int)), ("new_name", .int (g : Int))])
theorem StepV.same {K : PySem.W.Frag} {H H' : Hp} {v : V} {p : VapatBase.Step} (s : Same H H') (h : StepV K H v p) : StepV K H' v p := by
  obtain ⟨hw, x, dx, e, h⟩ := h
  refine ⟨hw, x, dx, e, ?_⟩
  cases p with
  | hunk f a o n => obtain ⟨po, pn, h1, h2, h3⟩ := h; exact ⟨po, pn, s _ _ h1, s _ _ h2, s _ _ h3⟩
  | _ => exact s _ _ h
/-- a list is rewritten: a step is none -/
theorem StepV.upd {K : PySem.W.Frag} {H : Hp} {v : V} {p : VapatBase.Step} {a : Addr} {xs : List V} {o : HO} (h : StepV K H v p) (ha : H a = some (.lst xs)) : StepV K (upd H a o) v p := by
  obtain ⟨hw, x, dx, e, h⟩ := h
  refine ⟨hw, x, dx, e, ?_⟩
  have ne : ∀ {b : Addr} {u : HO}, H b = some u → (∀ ys, u ≠ .lst ys) → L2.upd H a o b = some u := fun {b u} hb hu => by
    rw [upd_ne (ne_of hb ha (hu _))]
    exact hb
  cases p with
  | hunk f a o n => obtain ⟨po, pn, h1, h2, h3⟩ := h; exact ⟨po, pn, ne h1 (fun _ z => by cases z), ne h2 (fun _ z => by cases z), ne h3 (fun _ z => by cases z)⟩
  | _ => exact ne h (fun _ z => by cases z)
/-- values of steps -/
abbrev StepsV (K : PySem.W.Frag) (H : Hp) (vs : List V) (l : List VapatBase.Step) : Prop := Paired (fun v p => StepV K H v p) vs l
theorem StepsV.same {K : PySem.W.Frag} {H H' : Hp} {vs : List V} {l : List VapatBase.Step} (s : Same H H') (h : StepsV K H vs l) : StepsV K H' vs l := Paired.mapP h fun _ _ z => z.same s
theorem StepsV.upd {K : PySem.W.Frag} {H : Hp} {vs : List V} {l : List VapatBase.Step} {a : Addr} {xs : List V} {o : HO} (h : StepsV K H vs l) (ha : H a = some (.lst xs)) : StepsV K (L2.upd H a o) vs l := Paired.mapP h fun _ _ z => z.upd ha
def RowV (K : PySem.W.Frag) (H : Hp) (v : V) (l : List VapatBase.Step) : Prop := ∃ a vs, v = .ref a ∧ H a = some (.lst vs) ∧ StepsV K H vs l
theorem RowV.same {K : PySem.W.Frag} {H H' : Hp} {v : V} {l : List VapatBase.Step} (s : Same H H') (h : RowV K H v l) : RowV K H' v l := by
  obtain ⟨a, vs, e, h1, h2⟩ := h
  exact ⟨a, vs, e, s _ _ h1, h2.same s⟩
/-- a new object stands beside all that was -/
theorem same_new {H : Hp} {a : Addr} {o : HO} (h : H a = none) : Same H (upd H a o) := fun b u e => by
  rw [upd_ne (ne_of_none e h)]
  exact e
/-- an object that H did not know is changed -/
theorem same_mut {H H' : Hp} {a : Addr} {o : HO} (s : Same H H') (h : H a = none) : Same H (upd H' a o) := fun b u e => by
  rw [upd_ne (ne_of_none e h)]
  exact s _ _ e
section
variable {K : PySem.W.Frag} {mg : Str → Option Value}
def spIsName : Sp := fun vs H Q _ => ∃ z : Int, vs = [.int z] ∧ Q (.bl (decide (0 ≤ z) && decide (z ≤ 9))) H
theorem ok_is_name (T : Tx K mg) : Ok K mg 1 ("is_name", none) ["number"] spIsName := by
  refine mk_ok T e_is_name rfl rfl sc_is_name (fun _ _ _ _ _ _ us hl => match us, hl with | [_], _ => rfl) (fun vs H Q E h => ?_) (fun P w base f cdv A outer s H vs Q E hr h => ?_)
  · obtain ⟨z, rfl, _⟩ := h; rfl
  · obtain ⟨z, rfl, q⟩ := h
    refine ⟨_, (pss_one (ps_ret (pe_chain op_le op_le pe_int (pv 0) (pe_gint (i_TOP_NAME T))))), ?_⟩
    refine ⟨_, rfl, _, _, rfl, rfl, _, rfl, ?_⟩
    refine ite2 (fun c => ⟨_, _, rfl, rfl, ?_⟩) (fun c => ?_)
    · rw [c, Bool.true_and] at q; exact q
    · rw [Bool.eq_false_iff.mpr c, Bool.false_and] at q; exact q
theorem same_tup {H H' : Hp} {a : Addr} {xs : List V} (s : Same H H') (h : SqT K H a xs) : SqT K H' a xs := by
  rcases h with (h | ⟨o, h⟩) | h
  · exact .inl (.inl (s _ _ h))
  · exact .inl (.inr ⟨o, s _ _ h⟩)
  · exact .inr h
/-- a list or a tuple -/
def SqA (K : PySem.W.Frag) (H : Hp) (a : Addr) (xs : List V) : Prop := SqL K H a xs ∨ SqT K H a xs
theorem SqA.same {H H' : Hp} {a : Addr} {xs : List V} (s : Same H H') (h : SqA K H a xs) : SqA K H' a xs := h.imp (fun z => s.seq z) fun z => same_tup s z
/-- a comprehension whose element is a plain function of its item -/
theorem comp_map {J : It} {G : Hp → Prop} {xs : List V} (wk : L2.Walk J xs.length G (L2.YAt xs)) {te : TE} {j : Nat} {σ : L2.St} {H1 : Hp} {D : Addr} {R : Hp → Prop} (f : V → V) (hn : xs.length < sizeLine) (hG : ∀ acc, G (upd H1 D (.lst acc)))
    (ht : ∀ x ∈ xs, ∀ acc (Q : VK), Q (f x) (upd H1 D (.lst acc)) → te ((σ.set j none).set j (some x)) (upd H1 D (.lst acc)) Q) (hd : R (upd H1 D (.lst (xs.map f)))) :
    ∃ Wm : Nat → Nat → Hp → Prop, (∃ m, Wm 0 m (upd H1 D (.lst []))) ∧ ∀ i m Hc, Wm i m Hc →
      (J.stop i Hc ∧ R Hc) ∨ (J.go i Hc ∧ ∃ Nx : Hp → Prop, (∀ Hn, Nx Hn → ∃ mn, mn < m ∧ Wm (i + 1) mn Hn) ∧ ∀ x Hy, J.yld i Hc x Hy → gName j x (wipe σ [j]) Hy fun σ2 H2 => wipe σ2 [j] = wipe σ [j] ∧ tYes σ2 H2 fun b H3 =>
        if b = true then te σ2 H3 fun y H4 => ∃ acc, H4 D = some (.lst acc) ∧ acc.length < sizeLine ∧ Nx (upd H4 D (.lst (acc ++ [y]))) else Nx H3) := by
  refine L2.lc_it wk (fun i Hc => Hc = upd H1 D (.lst ((xs.take i).map f))) rfl (fun i Hc _ e => e ▸ hG _) (fun i x Hc Hy hi e y => ?_) (fun Hc e => ?_)
  · obtain ⟨rfl, hx⟩ := y
    subst e
    refine ⟨by simp [wipe, List.set_set], ?_⟩
    refine ht x (List.mem_of_getElem? hx) _ _ ⟨_, upd_same, ?_, ?_⟩
    · rw [List.length_map, List.length_take]; omega
    · rw [upd_upd, List.take_add_one, hx, List.map_append]
      rfl
  · rw [e, List.take_length]
    exact hd
def spAreTokens (K : PySem.W.Frag) : Sp := fun vs H Q _ => ∃ (a : Addr) (ns : List Int), vs = [.ref a] ∧ SqA K H a (ns.map V.int) ∧ ns.length < sizeLine ∧ ∀ H', Same H H' → Q (.bl (ns.all tokB)) H'
theorem ok_are_tokens (T : Tx K mg) : Ok K mg 1 ("are_tokens", none) ["numbers"] (spAreTokens K) := by
  refine mk_ok T e_are_tokens rfl rfl sc_are_tokens (fun _ _ _ _ _ _ us hl => match us, hl with | [_], _ => rfl) (fun vs H Q E h => ?_) (fun P w base f cdv A outer s H vs Q E hr h => ?_)
  · obtain ⟨a, ns, rfl, _⟩ := h; rfl
  · obtain ⟨a, ns, rfl, hS, hlen, q⟩ := h
    refine ⟨_, (pss_one (ps_ret (pe_callB (cr_all rfl) (by rfl) (z_all T) (by decide +kernel) (pa_cons (pe_lc (own := [("number", 1)]) (g := gName 1) (by rfl) sc_are_tokens.nd (pi_or (pi_list (pv 0)) (pi_tup (pv 0))) (blkOk_by (own := [("number", 1)]) (N := nm_are_tokens) (sc := defScope s_are_tokens) (by decide +kernel)) (fun _ _ _ _ _ => pg_name (i := 1) sc_are_tokens.nd rfl (Or.inl rfl)) (fun _ _ _ _ _ => pts_nil) (fun _ _ _ _ _ => (pe_chain op_le op_le pe_int (pv 1) (pe_gint (i_TOP_TOKEN T))))) pa_nil)))), ?_⟩
    have hz : (ns.map V.int).length < sizeLine := by rw [List.length_map]; exact hlen
    have el : ∀ D : Addr, H D = none → ∀ x ∈ ns.map V.int, ∀ acc (Q : VK), Q (match x with | .int z => .bl (tokB z) | v => v) (upd H D (.lst acc)) →
        tChain (rI0 fun i j => .bl (decide (i ≤ j))) (rI0 fun i j => .bl (decide (i ≤ j))) (tC (.int 0)) (tVar 1) (tC (.int 99)) (([some (V.ref a), none].set 1 none).set 1 (some x)) (upd H D (.lst acc)) Q := by
      intro D hD x hx acc Q q
      obtain ⟨z, _, rfl⟩ := List.mem_map.mp hx
      refine ⟨_, rfl, _, _, rfl, rfl, _, rfl, ?_⟩
      refine ite2 (fun c => ⟨_, _, rfl, rfl, ?_⟩) (fun c => ?_)
      · have : Q (.bl (decide (0 ≤ z) && decide (z ≤ 99))) (upd H D (.lst acc)) := q
        rwa [c, Bool.true_and] at this
      · have : Q (.bl (decide (0 ≤ z) && decide (z ≤ 99))) (upd H D (.lst acc)) := q
        rwa [Bool.eq_false_iff.mpr c, Bool.false_and] at this
    have fin : ∀ D : Addr, H D = none → ∃ (b : Addr) (bs : List Bool), [V.ref D] = [V.ref b] ∧ SqL K (upd H D (.lst ((ns.map V.int).map fun x => match x with | .int z => .bl (tokB z) | v => v))) b (bs.map V.bl) ∧
        Q (.bl (bs.all id)) (upd H D (.lst ((ns.map V.int).map fun x => match x with | .int z => .bl (tokB z) | v => v))) := by
      intro D hD
      refine ⟨D, ns.map tokB, rfl, SqL.of (by rw [upd_same, List.map_map, List.map_map]; rfl), ?_⟩
      rw [List.all_map]
      exact q _ (same_new hD)
    rcases hS with hS | hS
    · exact .inl ⟨_, rfl, a, rfl, ⟨_, hS⟩, fun D hD => comp_map L2.walk_list _ hz (fun acc => (same_new hD).seq hS) (el D hD) (fin D hD)⟩
    · exact .inr ⟨_, rfl, a, rfl, ⟨_, hS⟩, fun D hD => comp_map L2.walk_tup _ hz (fun acc => same_tup (same_new hD) hS) (el D hD) (fin D hD)⟩
/-- None, or what stands for it -/
def OptV {α : Type} (P : V → α → Prop) (v : V) : Option α → Prop
  | none => v = .non
  | some a => P v a
def TupV (H : Hp) (v : V) (l : List Nat) : Prop := ∃ p, v = .ref p ∧ H p = some (.tup (toks l))
theorem TupV.same {H H' : Hp} {v : V} {l : List Nat} (s : Same H H') (h : TupV H v l) : TupV H' v l := by
  obtain ⟨p, e, h⟩ := h
  exact ⟨p, e, s _ _ h⟩
def spTokensAt (K : PySem.W.Frag) : Sp := fun vs H Q _ => ∃ (a : Addr) (ns : List Int) (pl m : Nat), vs = [.ref a, .int (pl : Int), .int (m : Int)] ∧ SqL K H a (ns.map V.int) ∧ ns.length < sizeLine ∧
  ∀ v H', Same H H' → OptV (TupV H') v (tokensAt ns pl m) → Q v H'
theorem V_at {ns : List Int} {i : Nat} {c : Int} (h : ns[i]? = some c) : (ns.map V.int)[i]? = some (V.int c) := by rw [List.getElem?_map, h]; rfl
theorem cut_ints (ns : List Int) (i j : Int) (a b : Nat) (h1 : i = (a : Int)) (h2 : j = (b : Int)) (ha : a ≤ ns.length) : cutV (ns.map V.int) (some i) (some j) = ((ns.drop a).take (b - a)).map V.int := by
  subst h1 h2
  unfold cutV
  rw [HT.sIx_nat, HT.sIx_nat, List.length_map, Nat.min_eq_left ha, List.map_take, List.map_drop, List.take_eq_take_iff, List.length_drop, List.length_map]
  omega
theorem ok_tokens_at (T : Tx K mg) : Ok K mg 2 ("tokens_at", none) ["numbers", "place", "most"] (spTokensAt K) := by
  refine mk_ok T e_tokens_at rfl rfl sc_tokens_at (fun _ _ _ _ _ _ us hl => match us, hl with | [_, _, _], _ => rfl) (fun vs H Q E h => ?_) (fun P w base f cdv A outer s H vs Q E hr h => ?_)
  · obtain ⟨a, ns, pl, m, rfl, _⟩ := h; rfl
  · obtain ⟨a, ns, pl, m, rfl, hS, hlen, q⟩ := h
    refine ⟨_, (pss_cons (ps_if (PW.pt (pw_or (pt_cmpR op_ge (pv 1) (pe_callB call_len_seq (by rfl) (z_len T) (by decide +kernel) (pa_cons (pv 0) pa_nil)) (nomark _)) (pw_or1 (pt_not (pt_chain op_le op_le pe_int (pe_ix ix_list (pv 0) (pv 1) (fun _ _ => rfl)) (pv 2)))))) (pss_one (ps_ret pe_non)) pss_nil) (pss_cons (ps_set (i := 3) sc_tokens_at.nd rfl (Or.inl rfl) (pe_op op_add (pv 1) pe_int)) (pss_cons (ps_set (i := 4) sc_tokens_at.nd rfl (Or.inl rfl) (pe_callTy call_tuple_of (by rfl) (z_tuple T) (by decide +kernel) (pa_cons (pe_slice sl_list (pv 0) (po_some (pv 3)) (po_some (pe_op op_add (pv 3) (pe_ix ix_list (pv 0) (pv 1) (fun _ _ => rfl))))) pa_nil))) (pss_cons (ps_if (PW.pt (pw_or (pt_cmpR op_lt (pe_callB call_len_seq (by rfl) (z_len T) (by decide +kernel) (pa_cons (pv 4) pa_nil)) (pe_ix ix_list (pv 0) (pv 1) (fun _ _ => rfl)) (nomark _)) (pw_or1 (pt_not (pt_val (pe_f (ok_are_tokens T) (g_are_tokens T) (hr.mono (by decide)) (pa_cons (pv 4) pa_nil))))))) (pss_one (ps_ret pe_non)) pss_nil) (pss_one (ps_ret (pv 4))))))), ?_⟩
    refine ⟨_, rfl, _, rfl, a, _, rfl, .inl hS, _, _, rfl, rfl, _, rfl, ?_⟩
    refine ite2 (fun c => ?_) (fun c => ?_)
    · have hp : ns[pl]? = none := by
        rw [List.getElem?_eq_none_iff]
        have := of_decide_eq_true c
        rw [List.length_map] at this
        omega
      exact q _ _ (Same.refl _) (by rw [tokensAt, hp]; rfl)
    · have hp : pl < ns.length := by
        have := of_decide_eq_false (Bool.eq_false_iff.mpr c)
        rw [List.length_map] at this
        omega
      obtain ⟨z, hz⟩ : ∃ z, ns[pl]? = some z := ⟨_, List.getElem?_eq_getElem hp⟩
      have hv := V_at hz
      refine ⟨_, rfl, _, rfl, a, _, _, _, rfl, rfl, hS, atI_nat hv, _, _, rfl, rfl, _, rfl, ?_⟩
      have ret : tokensAt ns pl m = none → Q .non H := fun e => q _ _ (Same.refl _) (by rw [e]; rfl)
      refine ite2 (fun c0 => ?_) (fun c0 => ⟨_, rfl, ret (tokensAt_no hz fun k => c0 (decide_eq_true k.1))⟩)
      refine ⟨_, rfl, _, _, rfl, rfl, _, rfl, ?_⟩
      refine ite2 (fun c1 => ret (tokensAt_no hz fun k => ?_)) (fun c1 => ?_)
      · rw [decide_eq_true k.2] at c1
        cases c1
      have k0 : 0 ≤ z := of_decide_eq_true c0
      have k1 : z ≤ (m : Int) := by
        apply Classical.byContradiction
        intro k
        exact c1 (by rw [decide_eq_false k]; rfl)
      refine ⟨_, rfl, _, _, rfl, rfl, ?_⟩
      refine ⟨_, rfl, _, rfl, _, rfl, _, rfl, _, rfl, _, rfl, a, _, _, _, rfl, rfl, hS, atI_nat hv, _, _, rfl, rfl, _, rfl, a, _, rfl, hS, fun p hp2 => ?_⟩
      rw [cut_ints ns _ _ (pl + 1) (pl + 1 + z.toNat) (by omega) (by omega) (by omega), show pl + 1 + z.toNat - (pl + 1) = z.toNat from by omega]
      refine ⟨p, _, rfl, .inl ⟨SqL.of upd_same, fun l hl => ?_⟩⟩
      have s1 : Same H (upd (upd H p (.lst (((ns.drop (pl + 1)).take z.toNat).map V.int))) l (.tup (((ns.drop (pl + 1)).take z.toNat).map V.int))) := (same_new hp2).trans (same_new hl)
      have ret1 : tokensAt ns pl m = none → Q .non _ := fun e => q _ _ s1 (by rw [e]; rfl)
      have lc : ((ns.drop (pl + 1)).take z.toNat).length = min z.toNat (ns.length - (pl + 1)) := by rw [List.length_take, List.length_drop]
      refine ⟨_, rfl, l, _, rfl, .inr (SqT.of upd_same), _, rfl, _, rfl, a, _, _, _, rfl, rfl, s1.seq hS, atI_nat hv, _, _, rfl, rfl, _, rfl, ?_⟩
      refine ite2 (fun c2 => ret1 (tokensAt_few hz fun k => ?_)) (fun c2 => ?_)
      · have := of_decide_eq_true c2
        rw [List.length_map, lc] at this
        omega
      have k2 : pl + 1 + z.toNat ≤ ns.length := by
        have := of_decide_eq_false (Bool.eq_false_iff.mpr c2)
        rw [List.length_map, lc] at this
        omega
      refine ⟨_, rfl, l, _, rfl, .inr (SqT.of upd_same), by rw [lc]; omega, fun H2 s2 => ?_⟩
      refine ⟨_, rfl, ?_⟩
      refine ite2 (fun c3 => ?_) (fun c3 => ?_)
      · refine q _ _ (s1.trans s2) ?_
        rw [tokensAt_few hz fun k => by rw [k.2] at c3; cases c3]
        rfl
      · have k3 : ((ns.drop (pl + 1)).take z.toNat).all tokB = true := by
          cases e : ((ns.drop (pl + 1)).take z.toNat).all tokB
          · rw [e] at c3; exact absurd rfl c3
          · rfl
        refine ⟨_, rfl, q _ _ (s1.trans s2) ?_⟩
        rw [tokensAt_yes hz ⟨k0, k1⟩ ⟨k2, k3⟩]
        refine ⟨l, rfl, s2 _ _ ?_⟩
        rw [upd_same, toks, List.map_map]
        refine congrArg (fun w => some (HO.tup w)) ?_
        conv => lhs; rw [← toNat_back k3, List.map_map]
        rfl
end
end Rw
end
section
set_option Elab.async false
set_option linter.all false
set_option maxRecDepth 100000
set_option maxHeartbeats 4000000
namespace Rw
open PySem PySem.Spec PyProof.Rows L2
open VapatBase (fileIn putFile dropFile)
/-! ### a tree as a dict -/
def nameK (x : Nat × List Nat) : Key := Sum.inl (x.1 : Int)
def TreeV (H : Hp) (v : V) (t : VapatBase.Tree) : Prop := ∃ d kvs, v = .ref d ∧ H d = some (.dK kvs) ∧ (kvs.map (·.1)).Perm (t.map nameK) ∧ ∀ x ∈ t, TupV H ((valV kvs (nameK x)).getD .non) x.2
theorem TreeV.same {H H' : Hp} {v : V} {t : VapatBase.Tree} (s : Same H H') (h : TreeV H v t) : TreeV H' v t := by
  obtain ⟨d, kvs, e, h1, h2, h3⟩ := h
  exact ⟨d, kvs, e, s _ _ h1, h2, fun x hx => (h3 x hx).same s⟩
theorem nameK_inj {f g : Nat} {c d : List Nat} (h : nameK (f, c) = nameK (g, d)) : f = g := by
  have : (f : Int) = (g : Int) := Sum.inl.inj h
  omega
/-- a key is there where the tree has the file -/
theorem tree_val {H : Hp} {kvs : List (Key × V)} {t : VapatBase.Tree} (hp : (kvs.map (·.1)).Perm (t.map nameK)) (f : Nat) : (valV kvs (Sum.inl (f : Int))).isSome = (fileIn t f).isSome := by
  cases e : fileIn t f with
  | none =>
    cases e2 : valV kvs (Sum.inl (f : Int)) with
    | none => rfl
    | some v =>
      exfalso
      have := hp.mem_iff.mp (valV_in e2)
      obtain ⟨x, hx, ex⟩ := List.mem_map.mp this
      obtain ⟨g, c⟩ := x
      have : g = f := nameK_inj (d := c) ex
      subst this
      have hn : ∀ {t : VapatBase.Tree} {f : Nat} {c : List Nat}, (f, c) ∈ t → (fileIn t f).isSome = true := by
        intro t
        induction t with
        | nil => intro f c h; cases h
        | cons y t ih =>
          intro f c h
          rw [fileIn_cons]
          split
          · rfl
          · rcases List.mem_cons.mp h with q | q
            · subst q; contradiction
            · exact ih q
      have := hn hx
      rw [e] at this
      cases this
  | some c =>
    cases e2 : valV kvs (Sum.inl (f : Int)) with
    | some v => rfl
    | none =>
      exfalso
      exact valV_not e2 (hp.mem_iff.mpr (List.mem_map.mpr ⟨(f, c), mem_of_fileIn e, rfl⟩))
theorem tree_get {H : Hp} {kvs : List (Key × V)} {t : VapatBase.Tree} (hv : ∀ x ∈ t, TupV H ((valV kvs (nameK x)).getD .non) x.2) {f : Nat} {c : List Nat} (h : fileIn t f = some c) :
    ∃ p, valV kvs (Sum.inl (f : Int)) = some (.ref p) ∧ H p = some (.tup (toks c)) := by
  obtain ⟨p, e, hp⟩ := hv _ (mem_of_fileIn h)
  have e : (valV kvs (Sum.inl (f : Int))).getD .non = .ref p := e
  cases q : valV kvs (Sum.inl (f : Int)) with
  | none => rw [q] at e; cases e
  | some v => rw [q] at e; exact ⟨p, congrArg some e, hp⟩
theorem tree_put {H : Hp} {kvs : List (Key × V)} {t : VapatBase.Tree} {f : Nat} {c : List Nat} {v : V} (hr : Rise t) (hp : (kvs.map (·.1)).Perm (t.map nameK)) (hv : ∀ x ∈ t, TupV H ((valV kvs (nameK x)).getD .non) x.2) (hc : TupV H v c) :
    ((putK kvs (Sum.inl (f : Int)) v).map (·.1)).Perm ((putFile f c t).map nameK) ∧ ∀ x ∈ putFile f c t, TupV H ((valV (putK kvs (Sum.inl (f : Int)) v) (nameK x)).getD .non) x.2 := by
  have hval := tree_val (H := H) hp f
  refine ⟨?_, fun x hx => ?_⟩
  · cases e : fileIn t f with
    | none =>
      rw [e] at hval
      have hn : valV kvs (Sum.inl (f : Int)) = none := by
        cases q : valV kvs (Sum.inl (f : Int)) with
        | none => rfl
        | some _ => rw [q] at hval; cases hval
      rw [putK_new v hn, List.map_append]
      exact (List.perm_append_comm.trans (hp.cons _)).trans (put_perm_new nameK f c e).symm
    | some d =>
      rw [e] at hval
      have hk : ∀ (l : List (Key × V)) (k : Key) (y : V), (valV l k).isSome = true → (putK l k y).map (·.1) = l.map (·.1) := by
        intro l k y hl
        unfold putK
        rw [← valV_any] at hl
        rw [if_pos hl, List.map_map]
        apply List.map_congr_left
        intro p _
        show (if p.1 = k then (p.1, y) else p).1 = p.1
        split <;> rfl
      rw [hk _ _ _ hval]
      have hn := put_names_old f c hr (by rw [e]; rfl)
      have : (putFile f c t).map nameK = t.map nameK := by
        have h2 := congrArg (List.map fun (n : Nat) => (Sum.inl (n : Int) : Key)) hn
        rw [List.map_map, List.map_map] at h2
        exact h2
      rw [this]
      exact hp
  · obtain ⟨g, d⟩ := x
    have hf := fileIn_of_mem (rise_put f c t hr) hx
    rw [fileIn_put] at hf
    rw [valV_put]
    by_cases hg : g = f
    · subst hg
      rw [if_pos rfl] at hf
      cases hf
      rw [if_pos (show nameK (g, c) = Sum.inl (g : Int) from rfl)]
      exact hc
    · rw [if_neg hg] at hf
      rw [if_neg (fun k : nameK (g, d) = Sum.inl (f : Int) => hg (nameK_inj (c := d) (d := d) k))]
      exact hv _ (mem_of_fileIn hf)
section
variable {K : PySem.W.Frag} {mg : Str → Option Value}
def spWithFile : Sp := fun vs H Q _ => ∃ (v w : V) (f n : Nat) (t : VapatBase.Tree) (c : List Nat), vs = [v, .int (f : Int), w] ∧ wfT n t ∧ TreeV H v t ∧ TupV H w c ∧ ∀ r H', Same H H' → TreeV H' r (putFile f c t) → Q r H'
theorem ok_with_file (T : Tx K mg) : Ok K mg 1 ("with_file", none) ["tree", "name", "tokens"] spWithFile := by
  refine mk_ok T e_with_file rfl rfl sc_with_file (fun _ _ _ _ _ _ us hl => match us, hl with | [_, _, _], _ => rfl) (fun vs H Q E h => ?_) (fun P w base f cdv A outer s H vs Q E hr h => ?_)
  · obtain ⟨v, w, f, n, t, c, rfl, _⟩ := h; rfl
  · obtain ⟨v, w2, f, n, t, c, rfl, ht, ⟨d, kvs, rfl, hd, hp, hv⟩, hc, q⟩ := h
    refine ⟨_, (pss_cons (ps_set (i := 3) sc_with_file.nd rfl (Or.inl rfl) (pe_callTy call_dcopy (by rfl) (z_dict T) (by decide +kernel) (pa_cons (pv 0) pa_nil))) (pss_cons (ps_dput (hu_of hr) (pv 3) (pv 1) (pv 2) rfl) (pss_one (ps_ret (pv 3))))), ?_⟩
    have hl : kvs.length ≤ 10 := by
      have := hp.length_eq
      rw [List.length_map, List.length_map] at this
      have := ht.len
      omega
    refine ⟨_, rfl, d, kvs, rfl, hd, fun p hp2 => ?_⟩
    have s1 : Same H (upd H p (.dK kvs)) := same_new hp2
    refine ⟨_, rfl, _, rfl, _, rfl, p, _, rfl, DPut.k (k := Sum.inl (f : Int)) upd_same (Nat.lt_of_le_of_lt hl (by decide)), ?_⟩
    have s2 : Same H (upd (upd H p (.dK kvs)) p (.dK (putK kvs (Sum.inl (f : Int)) w2))) := same_mut s1 hp2
    refine ⟨_, rfl, q _ _ s2 ?_⟩
    obtain ⟨h1, h2⟩ := tree_put (f := f) ht.1 hp (fun x hx => (hv x hx).same s2) (hc.same s2)
    exact ⟨p, _, rfl, upd_same, h1, h2⟩
theorem val_drop {k j : Key} (hne : ¬ k = j) : ∀ l : List (Key × V), valV (dropK l j) k = valV l k
  | [] => rfl
  | p :: r => by
    by_cases e : p.1 = j
    · rw [dropK_pos e, val_drop hne r, valV_neg (fun z => hne (z.symm.trans e))]
    · rw [dropK_neg e]
      by_cases e2 : p.1 = k
      · rw [valV_pos e2, valV_pos e2]
      · rw [valV_neg e2, valV_neg e2, val_drop hne r]
theorem ok_without_file (T : Tx K mg) : Ok K mg 1 ("without_file", none) ["tree", "name"] (fun vs H Q _ => ∃ (v : V) (f n : Nat) (t : VapatBase.Tree), vs = [v, .int (f : Int)] ∧ wfT n t ∧ (fileIn t f).isSome = true ∧ TreeV H v t ∧ ∀ r H', Same H H' → TreeV H' r (dropFile f t) → Q r H') := by
  refine mk_ok T e_without_file rfl rfl sc_without_file (fun _ _ _ _ _ _ us hl => match us, hl with | [_, _], _ => rfl) (fun vs H Q E h => ?_) (fun P w base f cdv A outer s H vs Q E hr h => ?_)
  · obtain ⟨v, f, n, t, rfl, _⟩ := h; rfl
  · obtain ⟨v, f, n, t, rfl, ht, hf, ⟨d, kvs, rfl, hd, hp, hv⟩, q⟩ := h
    refine ⟨_, (pss_cons (ps_set (i := 2) sc_without_file.nd rfl (Or.inl rfl) (pe_callTy call_dcopy (by rfl) (z_dict T) (by decide +kernel) (pa_cons (pv 0) pa_nil))) (pss_cons (ps_expr (pe_dpop1 (pv 2) (pv 1) ⟨rfl, rfl, rfl, rfl⟩)) (pss_one (ps_ret (pv 2))))), ?_⟩
    refine ⟨_, rfl, d, kvs, rfl, hd, fun p hp2 => ?_⟩
    have s1 : Same H (upd H p (.dK kvs)) := same_new hp2
    have hs := tree_val (H := H) hp f
    rw [hf] at hs
    obtain ⟨y, hy⟩ := Option.isSome_iff_exists.mp hs
    refine ⟨_, rfl, p, rfl, .inl ⟨kvs, .inl upd_same⟩, _, rfl, kvs, Sum.inl (f : Int), y, upd_same, rfl, hy, ?_⟩
    have s2 : Same H (upd (upd H p (.dK kvs)) p (.dK (dropK kvs (Sum.inl (f : Int))))) := same_mut s1 hp2
    refine ⟨_, rfl, q _ _ s2 ⟨p, _, rfl, upd_same, ?_, fun x hx => ?_⟩⟩
    · have e1 : (dropK kvs (Sum.inl (f : Int))).map (·.1) = (kvs.map (·.1)).filter fun k => decide (k ≠ Sum.inl (f : Int)) := by
        unfold dropK
        rw [List.filter_map]
        rfl
      have e2 : (dropFile f t).map nameK = (t.map nameK).filter fun k => decide (k ≠ Sum.inl (f : Int)) := by
        unfold dropFile
        rw [List.filter_map]
        congr 1
        apply List.filter_congr
        intro x _
        show (x.1 != f) = decide (nameK x ≠ Sum.inl (f : Int))
        by_cases e : x.1 = f
        · subst e
          simp [nameK]
        · have : ¬ nameK x = Sum.inl (f : Int) := fun k => e (nameK_inj (c := x.2) (d := x.2) k)
          simp [e, this]
      rw [e1, e2]
      exact hp.filter _
    · have hx1 : x ∈ t := (List.mem_filter.mp hx).1
      have hx2 : ¬ x.1 = f := by
        have := (List.mem_filter.mp hx).2
        simpa using this
      have e : valV (dropK kvs (Sum.inl (f : Int))) (nameK x) = valV kvs (nameK x) := by
        have hne : ¬ nameK x = Sum.inl (f : Int) := fun k => hx2 (nameK_inj (c := x.2) (d := x.2) k)
        generalize nameK x = k at hne
        exact val_drop hne kvs
      rw [e]
      exact (hv x hx1).same s2
end
/-! ### the classes of steps -/
theorem lk1 {k : Str} {v : V} {r : List (Str × V)} : List.lookup k ((k, v) :: r) = some v := by
  have e : (k == k) = true := beq_self_eq_true k
  simp only [List.lookup, e]
theorem lk2 {k g : Str} {v : V} {r : List (Str × V)} (h : (k == g) = false) : List.lookup k ((g, v) :: r) = List.lookup k r := by
  simp only [List.lookup, h]
/-- a field that is not there yet is put behind the others -/
theorem putF_zip {f : Str} {v : V} : ∀ {names : List Str} {ws : List V}, ws.length = names.length → (names.all fun g => !decide (g = f)) = true → putF f v (names.zip ws) = (names ++ [f]).zip (ws ++ [v])
  | [], [], _, _ => rfl
  | [], _ :: _, h, _ => by cases h
  | _ :: _, [], h, _ => by cases h
  | g :: names, x :: ws, hl, h => by
    rw [List.all_cons, Bool.and_eq_true] at h
    have hg : ¬ g = f := by simpa using h.1
    rw [List.zip_cons_cons, putF, if_neg hg, putF_zip (by simpa using hl) h.2]
    rfl
/-- what __init__ of a class does that only lays its arguments in fields of these names -/
def spInit (C : Addr) (names : List Str) : Sp := fun vs H Q _ => ∃ x dx ws, vs = .ref x :: ws ∧ ws.length = names.length ∧ H x = some (.ins C dx []) ∧ Q .non (upd H x (.ins C dx (names.zip ws)))
theorem make_read {C : Addr} {names : List Str} {vs : List V} {H : Hp} {Q : VK} (hl : vs.length = names.length) (k : ∀ x dx H', Same H H' → H x = none → H' x = some (.ins C dx (names.zip vs)) → Q (.ref x) H') :
    ∀ x dx, H x = none → H dx = none → dx ≠ x → spInit C names (.ref x :: (vs ++ [])) (upd (upd H dx (.own x)) x (.ins C dx [])) (fun v H2 => v = .non ∧ Q (.ref x) H2) E0 := by
  intro x dx hx hd ne
  rw [List.append_nil]
  refine ⟨x, dx, vs, rfl, hl, upd_same, rfl, k x dx _ ?_ hx upd_same⟩
  rw [upd_upd]
  exact same_mut (same_new hd) hx
abbrev fHunk : List Str := ["file", "place", "old", "new"]
abbrev fSwap : List Str := ["file", "one", "other"]
abbrev fFile : List Str := ["file"]
abbrev fMoved : List Str := ["old_name", "new_name"]
section
variable {K : PySem.W.Frag} {mg : Str → Option Value}
theorem ok_Hunk_init (T : Tx K mg) : Ok K mg 1 ("Hunk", some "__init__") ["self", "file", "place", "old", "new"] (spInit (He.ga K "Hunk") fHunk) := by
  refine mk_ok T e_Hunk_init rfl rfl sc_Hunk_init (fun _ _ _ _ _ _ us hl => match us, hl with | [_, _, _, _, _], _ => rfl) (fun vs H Q E h => ?_) (fun P w base f cdv A outer s H vs Q E hr h => ?_)
  · obtain ⟨x, dx, ws, rfl, hl, _⟩ := h
    rw [List.length_cons, hl]; rfl
  · obtain ⟨x, dx, ws, rfl, hl, hx, q⟩ := h
    match ws, hl with
    | [v1, v2, v3, v4], _ =>
      refine ⟨_, (pss_cons (ps_fld (pv 0) (pv 1) rfl) (pss_cons (ps_fld (pv 0) (pv 2) rfl) (pss_cons (ps_fld (pv 0) (pv 3) rfl) (pss_one (ps_fld (pv 0) (pv 4) rfl))))), ?_⟩
      refine ⟨_, rfl, _, rfl, x, _, dx, _, rfl, hx, c_Hunk T, n_Hunk_file T, (by show 0 < 1000; decide), ?_⟩
      refine ⟨_, rfl, _, rfl, x, _, dx, _, rfl, upd_same, c_Hunk T, n_Hunk_place T, (by show 1 < 1000; decide), ?_⟩
      refine ⟨_, rfl, _, rfl, x, _, dx, _, rfl, upd_same, c_Hunk T, n_Hunk_old T, (by show 2 < 1000; decide), ?_⟩
      refine ⟨_, rfl, _, rfl, x, _, dx, _, rfl, upd_same, c_Hunk T, n_Hunk_new T, (by show 3 < 1000; decide), ?_⟩
      simp only [upd_upd]
      have e : putF "new" v4 (putF "old" v3 (putF "place" v2 (putF "file" v1 []))) = (fHunk : List Str).zip [v1, v2, v3, v4] := by
        rw [show putF "file" v1 [] = (["file"] : List Str).zip [v1] from rfl, putF_zip rfl (by decide +kernel), putF_zip rfl (by decide +kernel), putF_zip rfl (by decide +kernel)]
        all_goals rfl
      rw [← e] at q
      exact q
theorem ok_Swap_init (T : Tx K mg) : Ok K mg 1 ("Swap", some "__init__") ["self", "file", "one", "other"] (spInit (He.ga K "Swap") fSwap) := by
  refine mk_ok T e_Swap_init rfl rfl sc_Swap_init (fun _ _ _ _ _ _ us hl => match us, hl with | [_, _, _, _], _ => rfl) (fun vs H Q E h => ?_) (fun P w base f cdv A outer s H vs Q E hr h => ?_)
  · obtain ⟨x, dx, ws, rfl, hl, _⟩ := h
    rw [List.length_cons, hl]; rfl
  · obtain ⟨x, dx, ws, rfl, hl, hx, q⟩ := h
    match ws, hl with
    | [v1, v2, v3], _ =>
      refine ⟨_, (pss_cons (ps_fld (pv 0) (pv 1) rfl) (pss_cons (ps_fld (pv 0) (pv 2) rfl) (pss_one (ps_fld (pv 0) (pv 3) rfl)))), ?_⟩
      refine ⟨_, rfl, _, rfl, x, _, dx, _, rfl, hx, c_Swap T, n_Swap_file T, (by show 0 < 1000; decide), ?_⟩
      refine ⟨_, rfl, _, rfl, x, _, dx, _, rfl, upd_same, c_Swap T, n_Swap_one T, (by show 1 < 1000; decide), ?_⟩
      refine ⟨_, rfl, _, rfl, x, _, dx, _, rfl, upd_same, c_Swap T, n_Swap_other T, (by show 2 < 1000; decide), ?_⟩
      simp only [upd_upd]
      have e : putF "other" v3 (putF "one" v2 (putF "file" v1 [])) = (fSwap : List Str).zip [v1, v2, v3] := by
        rw [show putF "file" v1 [] = (["file"] : List Str).zip [v1] from rfl, putF_zip rfl (by decide +kernel), putF_zip rfl (by decide +kernel)]
        all_goals rfl
      rw [← e] at q
      exact q
theorem ok_Added_init (T : Tx K mg) : Ok K mg 1 ("Added", some "__init__") ["self", "file"] (spInit (He.ga K "Added") fFile) := by
  refine mk_ok T e_Added_init rfl rfl sc_Added_init (fun _ _ _ _ _ _ us hl => match us, hl with | [_, _], _ => rfl) (fun vs H Q E h => ?_) (fun P w base f cdv A outer s H vs Q E hr h => ?_)
  · obtain ⟨x, dx, ws, rfl, hl, _⟩ := h
    rw [List.length_cons, hl]; rfl
  · obtain ⟨x, dx, ws, rfl, hl, hx, q⟩ := h
    match ws, hl with
    | [v1], _ =>
      refine ⟨_, (pss_one (ps_fld (pv 0) (pv 1) rfl)), ?_⟩
      refine ⟨_, rfl, _, rfl, x, _, dx, _, rfl, hx, c_Added T, n_Added_file T, (by show 0 < 1000; decide), ?_⟩
      simp only [upd_upd]
      have e : putF "file" v1 [] = (fFile : List Str).zip [v1] := by
        rw [show putF "file" v1 [] = (["file"] : List Str).zip [v1] from rfl]
        all_goals rfl
      rw [← e] at q
      exact q
theorem ok_Removed_init (T : Tx K mg) : Ok K mg 1 ("Removed", some "__init__") ["self", "file"] (spInit (He.ga K "Removed") fFile) := by
  refine mk_ok T e_Removed_init rfl rfl sc_Removed_init (fun _ _ _ _ _ _ us hl => match us, hl with | [_, _], _ => rfl) (fun vs H Q E h => ?_) (fun P w base f cdv A outer s H vs Q E hr h => ?_)
  · obtain ⟨x, dx, ws, rfl, hl, _⟩ := h
    rw [List.length_cons, hl]; rfl
  · obtain ⟨x, dx, ws, rfl, hl, hx, q⟩ := h
    match ws, hl with
    | [v1], _ =>
      refine ⟨_, (pss_one (ps_fld (pv 0) (pv 1) rfl)), ?_⟩
      refine ⟨_, rfl, _, rfl, x, _, dx, _, rfl, hx, c_Removed T, n_Removed_file T, (by show 0 < 1000; decide), ?_⟩
      simp only [upd_upd]
      have e : putF "file" v1 [] = (fFile : List Str).zip [v1] := by
        rw [show putF "file" v1 [] = (["file"] : List Str).zip [v1] from rfl]
        all_goals rfl
      rw [← e] at q
      exact q
theorem ok_Moved_init (T : Tx K mg) : Ok K mg 1 ("Moved", some "__init__") ["self", "old_name", "new_name"] (spInit (He.ga K "Moved") fMoved) := by
  refine mk_ok T e_Moved_init rfl rfl sc_Moved_init (fun _ _ _ _ _ _ us hl => match us, hl with | [_, _, _], _ => rfl) (fun vs H Q E h => ?_) (fun P w base f cdv A outer s H vs Q E hr h => ?_)
  · obtain ⟨x, dx, ws, rfl, hl, _⟩ := h
    rw [List.length_cons, hl]; rfl
  · obtain ⟨x, dx, ws, rfl, hl, hx, q⟩ := h
    match ws, hl with
    | [v1, v2], _ =>
      refine ⟨_, (pss_cons (ps_fld (pv 0) (pv 1) rfl) (pss_one (ps_fld (pv 0) (pv 2) rfl))), ?_⟩
      refine ⟨_, rfl, _, rfl, x, _, dx, _, rfl, hx, c_Moved T, n_Moved_old_name T, (by show 0 < 1000; decide), ?_⟩
      refine ⟨_, rfl, _, rfl, x, _, dx, _, rfl, upd_same, c_Moved T, n_Moved_new_name T, (by show 1 < 1000; decide), ?_⟩
      simp only [upd_upd]
      have e : putF "new_name" v2 (putF "old_name" v1 []) = (fMoved : List Str).zip [v1, v2] := by
        rw [show putF "old_name" v1 [] = (["old_name"] : List Str).zip [v1] from rfl, putF_zip rfl (by decide +kernel)]
        all_goals rfl
      rw [← e] at q
      exact q
end
end Rw
end
section
set_option Elab.async false
set_option linter.all false
set_option maxRecDepth 100000
set_option maxHeartbeats 4000000
namespace Rw
open PySem PySem.Spec PyProof.Rows L2
open VapatBase (fileIn putFile dropFile namesOf flatStep)
abbrev PStep := VapatBase.Step
/-! ### fields -/
theorem l_Hunk_file {v0 v1 v2 v3 : V} : List.lookup ("file" : Str) [("file", v0), ("place", v1), ("old", v2), ("new", v3)] = some v0 := lk1
theorem l_Hunk_place {v0 v1 v2 v3 : V} : List.lookup ("place" : Str) [("file", v0), ("place", v1), ("old", v2), ("new", v3)] = some v1 := (lk2 (by decide +kernel)).trans (lk1)
theorem l_Hunk_old {v0 v1 v2 v3 : V} : List.lookup ("old" : Str) [("file", v0), ("place", v1), ("old", v2), ("new", v3)] = some v2 := (lk2 (by decide +kernel)).trans ((lk2 (by decide +kernel)).trans (lk1))
theorem l_Hunk_new {v0 v1 v2 v3 : V} : List.lookup ("new" : Str) [("file", v0), ("place", v1), ("old", v2), ("new", v3)] = some v3 := (lk2 (by decide +kernel)).trans ((lk2 (by decide +kernel)).trans ((lk2 (by decide +kernel)).trans (lk1)))
theorem l_Hunk_no {m : Str} {v0 v1 v2 v3 : V} (h0 : (m == ("file" : Str)) = false) (h1 : (m == ("place" : Str)) = false) (h2 : (m == ("old" : Str)) = false) (h3 : (m == ("new" : Str)) = false) : List.lookup m ([("file", v0), ("place", v1), ("old", v2), ("new", v3)] : List (Str × V)) = none := (lk2 h0).trans ((lk2 h1).trans ((lk2 h2).trans ((lk2 h3).trans (rfl))))
theorem l_Swap_file {v0 v1 v2 : V} : List.lookup ("file" : Str) [("file", v0), ("one", v1), ("other", v2)] = some v0 := lk1
theorem l_Swap_one {v0 v1 v2 : V} : List.lookup ("one" : Str) [("file", v0), ("one", v1), ("other", v2)] = some v1 := (lk2 (by decide +kernel)).trans (lk1)
theorem l_Swap_other {v0 v1 v2 : V} : List.lookup ("other" : Str) [("file", v0), ("one", v1), ("other", v2)] = some v2 := (lk2 (by decide +kernel)).trans ((lk2 (by decide +kernel)).trans (lk1))
theorem l_Swap_no {m : Str} {v0 v1 v2 : V} (h0 : (m == ("file" : Str)) = false) (h1 : (m == ("one" : Str)) = false) (h2 : (m == ("other" : Str)) = false) : List.lookup m ([("file", v0), ("one", v1), ("other", v2)] : List (Str × V)) = none := (lk2 h0).trans ((lk2 h1).trans ((lk2 h2).trans (rfl)))
theorem l_Added_file {v0 : V} : List.lookup ("file" : Str) [("file", v0)] = some v0 := lk1
theorem l_Added_no {m : Str} {v0 : V} (h0 : (m == ("file" : Str)) = false) : List.lookup m ([("file", v0)] : List (Str × V)) = none := (lk2 h0).trans (rfl)
theorem l_Moved_old_name {v0 v1 : V} : List.lookup ("old_name" : Str) [("old_name", v0), ("new_name", v1)] = some v0 := lk1
theorem l_Moved_new_name {v0 v1 : V} : List.lookup ("new_name" : Str) [("old_name", v0), ("new_name", v1)] = some v1 := (lk2 (by decide +kernel)).trans (lk1)
theorem l_Moved_no {m : Str} {v0 v1 : V} (h0 : (m == ("old_name" : Str)) = false) (h1 : (m == ("new_name" : Str)) = false) : List.lookup m ([("old_name", v0), ("new_name", v1)] : List (Str × V)) = none := (lk2 h0).trans ((lk2 h1).trans (rfl))
/-! ### the kinds of steps -/
def kd : PStep → Nat
  | .hunk _ _ _ _ => 0
  | .swap _ _ _ => 1
  | .add _ => 2
  | .remove _ => 3
  | .move _ _ => 4
def cN : Nat → Str
  | 0 => "Hunk"
  | 1 => "Swap"
  | 2 => "Added"
  | 3 => "Removed"
  | _ => "Moved"
theorem kd_lt (p : PStep) : kd p < 5 := by cases p <;> simp [kd]
abbrev allF : List Str := ["file", "place", "old", "new", "one", "other", "old_name", "new_name"]
section
variable {K : PySem.W.Frag} {mg : Str → Option Value}
theorem StepV.ins {H : Hp} {v : V} {p : PStep} (h : StepV K H v p) : ∃ a dx fs, v = .ref a ∧ H a = some (.ins (He.ga K (cN (kd p))) dx fs) ∧ ∀ m : Str, (allF.all fun g => !(m == g)) = true → fs.lookup m = none := by
  obtain ⟨_, x, dx, e, h⟩ := h
  have sp : ∀ {m : Str}, (allF.all fun g => !(m == g)) = true → ∀ g ∈ allF, (m == g) = false := fun {m} h g hg => by
    have := List.all_eq_true.mp h g hg
    simpa using this
  cases p with
  | hunk f a o n =>
    obtain ⟨po, pn, h1, _, _⟩ := h
    exact ⟨x, dx, _, e, h1, fun m hm => l_Hunk_no (sp hm _ (by simp)) (sp hm _ (by simp)) (sp hm _ (by simp)) (sp hm _ (by simp))⟩
  | swap f a b => exact ⟨x, dx, _, e, h, fun m hm => l_Swap_no (sp hm _ (by simp)) (sp hm _ (by simp)) (sp hm _ (by simp))⟩
  | add f => exact ⟨x, dx, _, e, h, fun m hm => l_Added_no (sp hm _ (by simp))⟩
  | remove f => exact ⟨x, dx, _, e, h, fun m hm => l_Added_no (sp hm _ (by simp))⟩
  | move f g => exact ⟨x, dx, _, e, h, fun m hm => l_Moved_no (sp hm _ (by simp)) (sp hm _ (by simp))⟩
/-- a method of one kind of step without arguments; with one -/
def sp1 (K : PySem.W.Frag) (k : Nat) (R : PStep → V → Hp → Prop) : Sp := fun vs H Q _ => ∃ v p, vs = [v] ∧ StepV K H v p ∧ kd p = k ∧ ∀ r H', Same H H' → R p r H' → Q r H'
def sp2 {α : Type} (K : PySem.W.Frag) (k : Nat) (A : α → V → Hp → Prop) (R : PStep → α → V → Hp → Prop) : Sp := fun vs H Q _ => ∃ v p w x, vs = [v, w] ∧ StepV K H v p ∧ kd p = k ∧ A x w H ∧ ∀ r H', Same H H' → R p x r H' → Q r H'
theorem rd1 {m : Str} {lev : Nat} {R : PStep → V → Hp → Prop} (hm : ∀ k, k < 5 → MOk K mg lev (He.ga K (cN k)) m (sp1 K k R)) (nf : (allF.all fun g => !(m == g)) = true) {v : V} {p : PStep} {H : Hp} {Q : VK} {σ : L2.St} (h : StepV K H v p)
    (q : ∀ r H', Same H H' → R p r H' → Q r H') : ∃ (C a dx : Addr) (fs : List (Str × V)) (sp : Sp), MOk K mg lev C m sp ∧ v = .ref a ∧ H a = some (.ins C dx fs) ∧ fs.lookup m = none ∧ tNil σ H fun vs H2 => sp (v :: vs) H2 Q E0 := by
  obtain ⟨a, dx, fs, e, h1, h2⟩ := h.ins
  exact ⟨_, a, dx, fs, _, hm _ (kd_lt p), e, h1, h2 m nf, v, p, rfl, h, rfl, q⟩
/-- a list of whole numbers -/
def IntsV (H : Hp) (v : V) (l : List Int) : Prop := ∃ a, v = .ref a ∧ H a = some (.lst (l.map V.int))
def Rnames : PStep → V → Hp → Prop := fun p r H => IntsV H r ((namesOf p).map fun (n : Nat) => (n : Int))
def Rtold : PStep → V → Hp → Prop := fun p r H => IntsV H r (flatStep p)
def Rturned (K : PySem.W.Frag) : PStep → V → Hp → Prop := fun p r H => StepV K H r (VapatBase.turned p)
theorem ok_Hunk_names (T : Tx K mg) : Ok K mg 1 ("Hunk", some "names") ["self"] (sp1 K 0 Rnames) := by
  refine mk_ok T e_Hunk_names rfl rfl sc_Hunk_names (fun _ _ _ _ _ _ us hl => match us, hl with | [_], _ => rfl) (fun vs H Q E h => ?_) (fun P w base f cdv A outer s H vs Q E hr h => ?_)
  · obtain ⟨v, p, rfl, _⟩ := h; rfl
  · obtain ⟨v, p, rfl, ⟨hw, x, dx, rfl, hx⟩, hk, q⟩ := h
    refine ⟨_, (pss_one (ps_ret (pe_lst (pa_cons (pe_fld (pv 0) rfl) pa_nil)))), ?_⟩
    cases p with
    | hunk f a o n =>
      obtain ⟨po, pn, hx, ho, hn⟩ := hx
      exact ⟨_, rfl, x, _, dx, _, _, rfl, hx, c_Hunk T, n_Hunk_file T, l_Hunk_file, by show 1 ≤ sizeLine; decide, fun r hr2 => q _ _ (same_new hr2) ⟨r, rfl, upd_same⟩⟩
    | swap _ _ _ => cases hk
    | add _ => cases hk
    | remove _ => cases hk
    | move _ _ => cases hk
theorem ok_Swap_names (T : Tx K mg) : Ok K mg 1 ("Swap", some "names") ["self"] (sp1 K 1 Rnames) := by
  refine mk_ok T e_Swap_names rfl rfl sc_Swap_names (fun _ _ _ _ _ _ us hl => match us, hl with | [_], _ => rfl) (fun vs H Q E h => ?_) (fun P w base f cdv A outer s H vs Q E hr h => ?_)
  · obtain ⟨v, p, rfl, _⟩ := h; rfl
  · obtain ⟨v, p, rfl, ⟨hw, x, dx, rfl, hx⟩, hk, q⟩ := h
    refine ⟨_, (pss_one (ps_ret (pe_lst (pa_cons (pe_fld (pv 0) rfl) pa_nil)))), ?_⟩
    cases p with
    | hunk _ _ _ _ => cases hk
    | swap f a b =>
      exact ⟨_, rfl, x, _, dx, _, _, rfl, hx, c_Swap T, n_Swap_file T, l_Swap_file, by show 1 ≤ sizeLine; decide, fun r hr2 => q _ _ (same_new hr2) ⟨r, rfl, upd_same⟩⟩
    | add _ => cases hk
    | remove _ => cases hk
    | move _ _ => cases hk
theorem ok_Added_names (T : Tx K mg) : Ok K mg 1 ("Added", some "names") ["self"] (sp1 K 2 Rnames) := by
  refine mk_ok T e_Added_names rfl rfl sc_Added_names (fun _ _ _ _ _ _ us hl => match us, hl with | [_], _ => rfl) (fun vs H Q E h => ?_) (fun P w base f cdv A outer s H vs Q E hr h => ?_)
  · obtain ⟨v, p, rfl, _⟩ := h; rfl
  · obtain ⟨v, p, rfl, ⟨hw, x, dx, rfl, hx⟩, hk, q⟩ := h
    refine ⟨_, (pss_one (ps_ret (pe_lst (pa_cons (pe_fld (pv 0) rfl) pa_nil)))), ?_⟩
    cases p with
    | hunk _ _ _ _ => cases hk
    | swap _ _ _ => cases hk
    | add f =>
      exact ⟨_, rfl, x, _, dx, _, _, rfl, hx, c_Added T, n_Added_file T, l_Added_file, by show 1 ≤ sizeLine; decide, fun r hr2 => q _ _ (same_new hr2) ⟨r, rfl, upd_same⟩⟩
    | remove _ => cases hk
    | move _ _ => cases hk
theorem ok_Removed_names (T : Tx K mg) : Ok K mg 1 ("Removed", some "names") ["self"] (sp1 K 3 Rnames) := by
  refine mk_ok T e_Removed_names rfl rfl sc_Removed_names (fun _ _ _ _ _ _ us hl => match us, hl with | [_], _ => rfl) (fun vs H Q E h => ?_) (fun P w base f cdv A outer s H vs Q E hr h => ?_)
  · obtain ⟨v, p, rfl, _⟩ := h; rfl
  · obtain ⟨v, p, rfl, ⟨hw, x, dx, rfl, hx⟩, hk, q⟩ := h
    refine ⟨_, (pss_one (ps_ret (pe_lst (pa_cons (pe_fld (pv 0) rfl) pa_nil)))), ?_⟩
    cases p with
    | hunk _ _ _ _ => cases hk
    | swap _ _ _ => cases hk
    | add _ => cases hk
    | remove f =>
      exact ⟨_, rfl, x, _, dx, _, _, rfl, hx, c_Removed T, n_Removed_file T, l_Added_file, by show 1 ≤ sizeLine; decide, fun r hr2 => q _ _ (same_new hr2) ⟨r, rfl, upd_same⟩⟩
    | move _ _ => cases hk
theorem ok_Moved_names (T : Tx K mg) : Ok K mg 1 ("Moved", some "names") ["self"] (sp1 K 4 Rnames) := by
  refine mk_ok T e_Moved_names rfl rfl sc_Moved_names (fun _ _ _ _ _ _ us hl => match us, hl with | [_], _ => rfl) (fun vs H Q E h => ?_) (fun P w base f cdv A outer s H vs Q E hr h => ?_)
  · obtain ⟨v, p, rfl, _⟩ := h; rfl
  · obtain ⟨v, p, rfl, ⟨hw, x, dx, rfl, hx⟩, hk, q⟩ := h
    refine ⟨_, (pss_one (ps_ret (pe_lst (pa_cons (pe_fld (pv 0) rfl) (pa_cons (pe_fld (pv 0) rfl) pa_nil))))), ?_⟩
    cases p with
    | hunk _ _ _ _ => cases hk
    | swap _ _ _ => cases hk
    | add _ => cases hk
    | remove _ => cases hk
    | move f g =>
      exact ⟨_, rfl, x, _, dx, _, _, rfl, hx, c_Moved T, n_Moved_old_name T, l_Moved_old_name, _, rfl, x, _, dx, _, _, rfl, hx, c_Moved T, n_Moved_new_name T, l_Moved_new_name, by show 2 ≤ sizeLine; decide, fun r hr2 => q _ _ (same_new hr2) ⟨r, rfl, upd_same⟩⟩
theorem ok_Hunk_told (T : Tx K mg) : Ok K mg 1 ("Hunk", some "told") ["self"] (sp1 K 0 Rtold) := by
  refine mk_ok T e_Hunk_told rfl rfl sc_Hunk_told (fun _ _ _ _ _ _ us hl => match us, hl with | [_], _ => rfl) (fun vs H Q E h => ?_) (fun P w base f cdv A outer s H vs Q E hr h => ?_)
  · obtain ⟨v, p, rfl, _⟩ := h; rfl
  · obtain ⟨v, p, rfl, ⟨hw, x, dx, rfl, hx⟩, hk, q⟩ := h
    refine ⟨_, (pss_cons (ps_set (i := 1) sc_Hunk_told.nd rfl (Or.inl rfl) (pe_lst (pa_cons (pe_gint (i_HUNK T)) (pa_cons (pe_fld (pv 0) rfl) (pa_cons (pe_fld (pv 0) rfl) pa_nil))))) (pss_one (ps_ret (pe_op op_cat (pe_op op_cat (pe_op op_cat (pe_op op_cat (pv 1) (pe_lst (pa_cons (pe_callB call_len_seq (by rfl) (z_len T) (by decide +kernel) (pa_cons (pe_fld (pv 0) rfl) pa_nil)) pa_nil))) (pe_callTy call_list_of (by rfl) (z_list T) (by decide +kernel) (pa_cons (pe_fld (pv 0) rfl) pa_nil))) (pe_lst (pa_cons (pe_callB call_len_seq (by rfl) (z_len T) (by decide +kernel) (pa_cons (pe_fld (pv 0) rfl) pa_nil)) pa_nil))) (pe_callTy call_list_of (by rfl) (z_list T) (by decide +kernel) (pa_cons (pe_fld (pv 0) rfl) pa_nil)))))), ?_⟩
    cases p with
    | hunk f a o n =>
      obtain ⟨po, pn, hx, ho, hn⟩ := hx
      have lo : (toks o).length ≤ 8 := by rw [List.length_map]; exact hw.2.1
      have ln : (toks n).length ≤ 8 := by rw [List.length_map]; exact hw.2.2
      refine ⟨_, rfl, x, _, dx, _, _, rfl, hx, c_Hunk T, n_Hunk_file T, l_Hunk_file, _, rfl, x, _, dx, _, _, rfl, hx, c_Hunk T, n_Hunk_place T, l_Hunk_place, by show 3 ≤ sizeLine; decide, fun p1 h1 => ?_⟩
      have s1 := same_new (o := .lst [V.int 0, V.int (f : Int), V.int (a : Int)]) h1
      refine ⟨_, rfl, _, rfl, x, _, dx, _, _, rfl, (s1 _ _ hx), c_Hunk T, n_Hunk_old T, l_Hunk_old, po, _, rfl, .inr (SqT.of (s1 _ _ ho)), by show 1 ≤ sizeLine; decide, fun p2 h2 => ?_⟩
      have s2 := s1.trans (same_new (o := .lst [V.int ((toks o).length : Int)]) h2)
      refine ⟨p1, p2, _, _, rfl, rfl, same_new h2 _ _ upd_same, upd_same, by show 3 + 1 ≤ sizeLine; decide, fun p3 h3 => ?_⟩
      have s3 := s2.trans (same_new (o := .lst ([V.int 0, V.int (f : Int), V.int (a : Int)] ++ [V.int ((toks o).length : Int)])) h3)
      refine ⟨_, rfl, x, _, dx, _, _, rfl, (s3 _ _ hx), c_Hunk T, n_Hunk_old T, l_Hunk_old, po, _, rfl, .inr (SqT.of (s3 _ _ ho)), fun p4 h4 => ?_⟩
      have s4 := s3.trans (same_new (o := .lst (toks o)) h4)
      refine ⟨p3, p4, _, _, rfl, rfl, same_new h4 _ _ upd_same, upd_same, by rw [List.length_append]; exact Nat.le_trans (Nat.add_le_add_left lo _) (by show 4 + 8 ≤ sizeLine; decide), fun p5 h5 => ?_⟩
      have s5 := s4.trans (same_new (o := .lst ([V.int 0, V.int (f : Int), V.int (a : Int)] ++ [V.int ((toks o).length : Int)] ++ toks o)) h5)
      refine ⟨_, rfl, x, _, dx, _, _, rfl, (s5 _ _ hx), c_Hunk T, n_Hunk_new T, l_Hunk_new, pn, _, rfl, .inr (SqT.of (s5 _ _ hn)), by show 1 ≤ sizeLine; decide, fun p6 h6 => ?_⟩
      have s6 := s5.trans (same_new (o := .lst [V.int ((toks n).length : Int)]) h6)
      refine ⟨p5, p6, _, _, rfl, rfl, same_new h6 _ _ upd_same, upd_same, by simp only [List.length_append]; exact Nat.le_trans (Nat.add_le_add_right (Nat.add_le_add_left lo _) _) (by show 4 + 8 + 1 ≤ sizeLine; decide), fun p7 h7 => ?_⟩
      have s7 := s6.trans (same_new (o := .lst ([V.int 0, V.int (f : Int), V.int (a : Int)] ++ [V.int ((toks o).length : Int)] ++ toks o ++ [V.int ((toks n).length : Int)])) h7)
      refine ⟨_, rfl, x, _, dx, _, _, rfl, (s7 _ _ hx), c_Hunk T, n_Hunk_new T, l_Hunk_new, pn, _, rfl, .inr (SqT.of (s7 _ _ hn)), fun p8 h8 => ?_⟩
      have s8 := s7.trans (same_new (o := .lst (toks n)) h8)
      refine ⟨p7, p8, _, _, rfl, rfl, same_new h8 _ _ upd_same, upd_same, by simp only [List.length_append]; exact Nat.le_trans (Nat.add_le_add (Nat.add_le_add_right (Nat.add_le_add_left lo _) _) ln) (by show 4 + 8 + 1 + 8 ≤ sizeLine; decide), fun p9 h9 => ?_⟩
      refine q _ _ (s8.trans (same_new h9)) ⟨p9, rfl, ?_⟩
      rw [upd_same]
      refine congrArg (fun w => some (HO.lst w)) ?_
      have im : ∀ l : List Nat, (l.map VapatBase.int).map V.int = toks l := fun l => by rw [List.map_map]; rfl
      simp [flatStep, VapatBase.listed, VapatBase.ints, im]
      simp [VapatBase.int, toks]
    | swap _ _ _ => cases hk
    | add _ => cases hk
    | remove _ => cases hk
    | move _ _ => cases hk
theorem ok_Swap_told (T : Tx K mg) : Ok K mg 1 ("Swap", some "told") ["self"] (sp1 K 1 Rtold) := by
  refine mk_ok T e_Swap_told rfl rfl sc_Swap_told (fun _ _ _ _ _ _ us hl => match us, hl with | [_], _ => rfl) (fun vs H Q E h => ?_) (fun P w base f cdv A outer s H vs Q E hr h => ?_)
  · obtain ⟨v, p, rfl, _⟩ := h; rfl
  · obtain ⟨v, p, rfl, ⟨hw, x, dx, rfl, hx⟩, hk, q⟩ := h
    refine ⟨_, (pss_one (ps_ret (pe_lst (pa_cons (pe_gint (i_SWAP T)) (pa_cons (pe_fld (pv 0) rfl) (pa_cons (pe_fld (pv 0) rfl) (pa_cons (pe_fld (pv 0) rfl) pa_nil))))))), ?_⟩
    cases p with
    | hunk _ _ _ _ => cases hk
    | swap f a b =>
      exact ⟨_, rfl, x, _, dx, _, _, rfl, hx, c_Swap T, n_Swap_file T, l_Swap_file, _, rfl, x, _, dx, _, _, rfl, hx, c_Swap T, n_Swap_one T, l_Swap_one, _, rfl, x, _, dx, _, _, rfl, hx, c_Swap T, n_Swap_other T, l_Swap_other, by show 4 ≤ sizeLine; decide, fun r hr2 => q _ _ (same_new hr2) ⟨r, rfl, upd_same⟩⟩
    | add _ => cases hk
    | remove _ => cases hk
    | move _ _ => cases hk
theorem ok_Added_told (T : Tx K mg) : Ok K mg 1 ("Added", some "told") ["self"] (sp1 K 2 Rtold) := by
  refine mk_ok T e_Added_told rfl rfl sc_Added_told (fun _ _ _ _ _ _ us hl => match us, hl with | [_], _ => rfl) (fun vs H Q E h => ?_) (fun P w base f cdv A outer s H vs Q E hr h => ?_)
  · obtain ⟨v, p, rfl, _⟩ := h; rfl
  · obtain ⟨v, p, rfl, ⟨hw, x, dx, rfl, hx⟩, hk, q⟩ := h
    refine ⟨_, (pss_one (ps_ret (pe_lst (pa_cons (pe_gint (i_ADDED T)) (pa_cons (pe_fld (pv 0) rfl) pa_nil))))), ?_⟩
    cases p with
    | hunk _ _ _ _ => cases hk
    | swap _ _ _ => cases hk
    | add f =>
      exact ⟨_, rfl, x, _, dx, _, _, rfl, hx, c_Added T, n_Added_file T, l_Added_file, by show 2 ≤ sizeLine; decide, fun r hr2 => q _ _ (same_new hr2) ⟨r, rfl, upd_same⟩⟩
    | remove _ => cases hk
    | move _ _ => cases hk
theorem ok_Removed_told (T : Tx K mg) : Ok K mg 1 ("Removed", some "told") ["self"] (sp1 K 3 Rtold) := by
  refine mk_ok T e_Removed_told rfl rfl sc_Removed_told (fun _ _ _ _ _ _ us hl => match us, hl with | [_], _ => rfl) (fun vs H Q E h => ?_) (fun P w base f cdv A outer s H vs Q E hr h => ?_)
  · obtain ⟨v, p, rfl, _⟩ := h; rfl
  · obtain ⟨v, p, rfl, ⟨hw, x, dx, rfl, hx⟩, hk, q⟩ := h
    refine ⟨_, (pss_one (ps_ret (pe_lst (pa_cons (pe_gint (i_REMOVED T)) (pa_cons (pe_fld (pv 0) rfl) pa_nil))))), ?_⟩
    cases p with
    | hunk _ _ _ _ => cases hk
    | swap _ _ _ => cases hk
    | add _ => cases hk
    | remove f =>
      exact ⟨_, rfl, x, _, dx, _, _, rfl, hx, c_Removed T, n_Removed_file T, l_Added_file, by show 2 ≤ sizeLine; decide, fun r hr2 => q _ _ (same_new hr2) ⟨r, rfl, upd_same⟩⟩
    | move _ _ => cases hk
theorem ok_Moved_told (T : Tx K mg) : Ok K mg 1 ("Moved", some "told") ["self"] (sp1 K 4 Rtold) := by
  refine mk_ok T e_Moved_told rfl rfl sc_Moved_told (fun _ _ _ _ _ _ us hl => match us, hl with | [_], _ => rfl) (fun vs H Q E h => ?_) (fun P w base f cdv A outer s H vs Q E hr h => ?_)
  · obtain ⟨v, p, rfl, _⟩ := h; rfl
  · obtain ⟨v, p, rfl, ⟨hw, x, dx, rfl, hx⟩, hk, q⟩ := h
    refine ⟨_, (pss_one (ps_ret (pe_lst (pa_cons (pe_gint (i_MOVED T)) (pa_cons (pe_fld (pv 0) rfl) (pa_cons (pe_fld (pv 0) rfl) pa_nil)))))), ?_⟩
    cases p with
    | hunk _ _ _ _ => cases hk
    | swap _ _ _ => cases hk
    | add _ => cases hk
    | remove _ => cases hk
    | move f g =>
      exact ⟨_, rfl, x, _, dx, _, _, rfl, hx, c_Moved T, n_Moved_old_name T, l_Moved_old_name, _, rfl, x, _, dx, _, _, rfl, hx, c_Moved T, n_Moved_new_name T, l_Moved_new_name, by show 3 ≤ sizeLine; decide, fun r hr2 => q _ _ (same_new hr2) ⟨r, rfl, upd_same⟩⟩
theorem ok_Hunk_turned (T : Tx K mg) : Ok K mg 3 ("Hunk", some "turned") ["self"] (sp1 K 0 (Rturned K)) := by
  refine mk_ok T e_Hunk_turned rfl rfl sc_Hunk_turned (fun _ _ _ _ _ _ us hl => match us, hl with | [_], _ => rfl) (fun vs H Q E h => ?_) (fun P w base f cdv A outer s H vs Q E hr h => ?_)
  · obtain ⟨v, p, rfl, _⟩ := h; rfl
  · obtain ⟨v, p, rfl, ⟨hw, x, dx, rfl, hx⟩, hk, q⟩ := h
    refine ⟨_, (pss_one (ps_ret (pe_mk (ok_Hunk_init T) (k_Hunk T) (g_Hunk T) (hr.mono (by decide)) (pa_cons (pe_fld (pv 0) rfl) (pa_cons (pe_fld (pv 0) rfl) (pa_cons (pe_fld (pv 0) rfl) (pa_cons (pe_fld (pv 0) rfl) pa_nil))))))), ?_⟩
    cases p with
    | hunk f a o n =>
      obtain ⟨po, pn, hx, ho, hn⟩ := hx
      exact ⟨_, rfl, x, _, dx, _, _, rfl, hx, c_Hunk T, n_Hunk_file T, l_Hunk_file, _, rfl, x, _, dx, _, _, rfl, hx, c_Hunk T, n_Hunk_place T, l_Hunk_place, _, rfl, x, _, dx, _, _, rfl, hx, c_Hunk T, n_Hunk_new T, l_Hunk_new, _, rfl, x, _, dx, _, _, rfl, hx, c_Hunk T, n_Hunk_old T, l_Hunk_old, make_read rfl fun y dy H' s _ hy => q _ _ s ⟨⟨hw.1, hw.2.2, hw.2.1⟩, y, dy, rfl, pn, po, hy, s _ _ hn, s _ _ ho⟩⟩
    | swap _ _ _ => cases hk
    | add _ => cases hk
    | remove _ => cases hk
    | move _ _ => cases hk
theorem ok_Swap_turned (T : Tx K mg) : Ok K mg 1 ("Swap", some "turned") ["self"] (sp1 K 1 (Rturned K)) := by
  refine mk_ok T e_Swap_turned rfl rfl sc_Swap_turned (fun _ _ _ _ _ _ us hl => match us, hl with | [_], _ => rfl) (fun vs H Q E h => ?_) (fun P w base f cdv A outer s H vs Q E hr h => ?_)
  · obtain ⟨v, p, rfl, _⟩ := h; rfl
  · obtain ⟨v, p, rfl, ⟨hw, x, dx, rfl, hx⟩, hk, q⟩ := h
    refine ⟨_, (pss_one (ps_ret (pv 0))), ?_⟩
    cases p with
    | hunk _ _ _ _ => cases hk
    | swap f a b =>
      exact ⟨_, rfl, q _ _ (Same.refl _) ⟨hw, x, dx, rfl, hx⟩⟩
    | add _ => cases hk
    | remove _ => cases hk
    | move _ _ => cases hk
theorem ok_Added_turned (T : Tx K mg) : Ok K mg 3 ("Added", some "turned") ["self"] (sp1 K 2 (Rturned K)) := by
  refine mk_ok T e_Added_turned rfl rfl sc_Added_turned (fun _ _ _ _ _ _ us hl => match us, hl with | [_], _ => rfl) (fun vs H Q E h => ?_) (fun P w base f cdv A outer s H vs Q E hr h => ?_)
  · obtain ⟨v, p, rfl, _⟩ := h; rfl
  · obtain ⟨v, p, rfl, ⟨hw, x, dx, rfl, hx⟩, hk, q⟩ := h
    refine ⟨_, (pss_one (ps_ret (pe_mk (ok_Removed_init T) (k_Removed T) (g_Removed T) (hr.mono (by decide)) (pa_cons (pe_fld (pv 0) rfl) pa_nil)))), ?_⟩
    cases p with
    | hunk _ _ _ _ => cases hk
    | swap _ _ _ => cases hk
    | add f =>
      exact ⟨_, rfl, x, _, dx, _, _, rfl, hx, c_Added T, n_Added_file T, l_Added_file, make_read rfl fun y dy H' s _ hy => q _ _ s ⟨hw, y, dy, rfl, hy⟩⟩
    | remove _ => cases hk
    | move _ _ => cases hk
theorem ok_Removed_turned (T : Tx K mg) : Ok K mg 3 ("Removed", some "turned") ["self"] (sp1 K 3 (Rturned K)) := by
  refine mk_ok T e_Removed_turned rfl rfl sc_Removed_turned (fun _ _ _ _ _ _ us hl => match us, hl with | [_], _ => rfl) (fun vs H Q E h => ?_) (fun P w base f cdv A outer s H vs Q E hr h => ?_)
  · obtain ⟨v, p, rfl, _⟩ := h; rfl
  · obtain ⟨v, p, rfl, ⟨hw, x, dx, rfl, hx⟩, hk, q⟩ := h
    refine ⟨_, (pss_one (ps_ret (pe_mk (ok_Added_init T) (k_Added T) (g_Added T) (hr.mono (by decide)) (pa_cons (pe_fld (pv 0) rfl) pa_nil)))), ?_⟩
    cases p with
    | hunk _ _ _ _ => cases hk
    | swap _ _ _ => cases hk
    | add _ => cases hk
    | remove f =>
      exact ⟨_, rfl, x, _, dx, _, _, rfl, hx, c_Removed T, n_Removed_file T, l_Added_file, make_read rfl fun y dy H' s _ hy => q _ _ s ⟨hw, y, dy, rfl, hy⟩⟩
    | move _ _ => cases hk
theorem ok_Moved_turned (T : Tx K mg) : Ok K mg 3 ("Moved", some "turned") ["self"] (sp1 K 4 (Rturned K)) := by
  refine mk_ok T e_Moved_turned rfl rfl sc_Moved_turned (fun _ _ _ _ _ _ us hl => match us, hl with | [_], _ => rfl) (fun vs H Q E h => ?_) (fun P w base f cdv A outer s H vs Q E hr h => ?_)
  · obtain ⟨v, p, rfl, _⟩ := h; rfl
  · obtain ⟨v, p, rfl, ⟨hw, x, dx, rfl, hx⟩, hk, q⟩ := h
    refine ⟨_, (pss_one (ps_ret (pe_mk (ok_Moved_init T) (k_Moved T) (g_Moved T) (hr.mono (by decide)) (pa_cons (pe_fld (pv 0) rfl) (pa_cons (pe_fld (pv 0) rfl) pa_nil))))), ?_⟩
    cases p with
    | hunk _ _ _ _ => cases hk
    | swap _ _ _ => cases hk
    | add _ => cases hk
    | remove _ => cases hk
    | move f g =>
      exact ⟨_, rfl, x, _, dx, _, _, rfl, hx, c_Moved T, n_Moved_new_name T, l_Moved_new_name, _, rfl, x, _, dx, _, _, rfl, hx, c_Moved T, n_Moved_old_name T, l_Moved_old_name, make_read rfl fun y dy H' s _ hy => q _ _ s ⟨⟨hw.2, hw.1⟩, y, dy, rfl, hy⟩⟩
theorem any_names (T : Tx K mg) : ∀ k, k < 5 → MOk K mg 1 (He.ga K (cN k)) "names" (sp1 K k Rnames)
  | 0, _ => m_ok (c_Hunk T) (m_Hunk_names T) (ok_Hunk_names T)
  | 1, _ => m_ok (c_Swap T) (m_Swap_names T) (ok_Swap_names T)
  | 2, _ => m_ok (c_Added T) (m_Added_names T) (ok_Added_names T)
  | 3, _ => m_ok (c_Removed T) (m_Removed_names T) (ok_Removed_names T)
  | 4, _ => m_ok (c_Moved T) (m_Moved_names T) (ok_Moved_names T)
  | n + 5, h => absurd h (by omega)
theorem any_told (T : Tx K mg) : ∀ k, k < 5 → MOk K mg 1 (He.ga K (cN k)) "told" (sp1 K k Rtold)
  | 0, _ => m_ok (c_Hunk T) (m_Hunk_told T) (ok_Hunk_told T)
  | 1, _ => m_ok (c_Swap T) (m_Swap_told T) (ok_Swap_told T)
  | 2, _ => m_ok (c_Added T) (m_Added_told T) (ok_Added_told T)
  | 3, _ => m_ok (c_Removed T) (m_Removed_told T) (ok_Removed_told T)
  | 4, _ => m_ok (c_Moved T) (m_Moved_told T) (ok_Moved_told T)
  | n + 5, h => absurd h (by omega)
theorem any_turned (T : Tx K mg) : ∀ k, k < 5 → MOk K mg 3 (He.ga K (cN k)) "turned" (sp1 K k (Rturned K))
  | 0, _ => m_ok (c_Hunk T) (m_Hunk_turned T) (ok_Hunk_turned T)
  | 1, _ => m_ok (c_Swap T) (m_Swap_turned T) ((ok_Swap_turned T).up (by decide))
  | 2, _ => m_ok (c_Added T) (m_Added_turned T) (ok_Added_turned T)
  | 3, _ => m_ok (c_Removed T) (m_Removed_turned T) (ok_Removed_turned T)
  | 4, _ => m_ok (c_Moved T) (m_Moved_turned T) (ok_Moved_turned T)
  | n + 5, h => absurd h (by omega)
end
end Rw
end
section
set_option Elab.async false
set_option linter.all false
set_option maxRecDepth 100000
set_option maxHeartbeats 4000000
namespace Rw
open PySem PySem.Spec PyProof.Rows L2
open VapatBase (fileIn putFile dropFile namesOf flatStep inFile swapAll)
/-! ### slices and equality of tuples of tokens -/
theorem cut_whole {xs : List V} {lo hi : Option Int} (h : HT.sIx xs.length 0 lo = 0 ∧ HT.sIx xs.length xs.length hi = xs.length) : cutV xs lo hi = xs := by
  unfold cutV
  rw [h.1, h.2]
  simp
theorem sl_read {K : PySem.W.Frag} {p : Addr} {xs : List V} {lo hi : Option Int} {H : Hp} {Q : VK} (hp : H p = some (.tup xs)) (k : ∀ r H', Same H H' → H' r = some (.tup (cutV xs lo hi)) → Q (.ref r) H') : rSlA K (.ref p) lo hi H Q := by
  refine ⟨p, xs, rfl, SqT.of hp, fun h => k p H (Same.refl H) ?_, fun _ r hr => k r _ (same_new hr) upd_same⟩
  rw [cut_whole h]
  exact hp
theorem cat_read {K : PySem.W.Frag} {p r : Addr} {xs ys : List V} {H : Hp} {Q : VK} (hp : H p = some (.tup xs)) (hr : H r = some (.tup ys)) (hl : xs.length + ys.length ≤ sizeLine) (k : ∀ z H', Same H H' → H' z = some (.tup (xs ++ ys)) → Q (.ref z) H') : rCatA K (.ref p) (.ref r) H Q := by
  refine ⟨p, r, xs, ys, rfl, rfl, SqT.of hp, SqT.of hr, hl, fun e => k r H (Same.refl H) ?_, fun _ e => k p H (Same.refl H) ?_, fun _ _ z hz => k z _ (same_new hz) upd_same⟩
  · rw [e]; exact hr
  · rw [e, List.append_nil]; exact hp
theorem cut_tok (c : List Nat) (i j : Int) (a b : Nat) (h1 : i = (a : Int)) (h2 : j = (b : Int)) (ha : a ≤ c.length) : cutV (toks c) (some i) (some j) = toks ((c.drop a).take (b - a)) := by
  subst h1 h2
  unfold cutV toks
  rw [HT.sIx_nat, HT.sIx_nat, List.length_map, Nat.min_eq_left ha, List.map_take, List.map_drop, List.take_eq_take_iff, List.length_drop, List.length_map]
  omega
theorem cut_from (c : List Nat) (i : Int) (a : Nat) (h1 : i = (a : Int)) : cutV (toks c) (some i) none = toks (c.drop a) := by
  subst h1
  unfold cutV toks
  rw [HT.sIx_nat, HT.sIx_none, List.length_map, List.map_drop]
  rcases Nat.le_total a c.length with h | h
  · rw [Nat.min_eq_left h]
    apply List.take_of_length_le
    rw [List.length_drop, List.length_map]
    omega
  · rw [Nat.min_eq_right h, List.drop_eq_nil_of_le (by simp), List.drop_eq_nil_of_le (by simp; exact h)]
    simp
theorem cut_to (c : List Nat) (i : Int) (a : Nat) (h1 : i = (a : Int)) (ha : a ≤ c.length) : cutV (toks c) none (some i) = toks (c.take a) := by
  subst h1
  unfold cutV toks
  rw [HT.sIx_nat, HT.sIx_none, List.length_map, Nat.min_eq_left ha, List.map_take]
  simp
def dtok (l : List Nat) : PyData := .tuple (l.map fun (n : Nat) => PyData.int (n : Int))
theorem dp_tok {K : PySem.W.Frag} {H : Hp} {p : Addr} {l : List Nat} (h : H p = some (.tup (toks l))) : Dp K H (.ref p) (dtok l) := by
  refine .tup (SqT.of h) ?_
  have : ∀ l : List Nat, DpAll K H (toks l) (l.map fun (n : Nat) => PyData.int (n : Int)) := by
    intro l
    induction l with
    | nil => exact .nil
    | cons n r ih => exact .cons (.int _) ih
  exact this l
theorem shaped_tok (l : List Nat) : SeqAt.shaped (dtok l) = true := by
  have h1 : ∀ l : List Nat, PyData.canLayAll0 (l.map fun (n : Nat) => PyData.int (n : Int)) = true := by
    intro l
    induction l with
    | nil => rfl
    | cons n r ih => rw [List.map_cons, PyData.canLayAll0, ih]; rfl
  have h2 : ∀ l : List Nat, PyData.depthAll (l.map fun (n : Nat) => PyData.int (n : Int)) = 0 := by
    intro l
    induction l with
    | nil => rfl
    | cons n r ih => rw [List.map_cons, PyData.depthAll, ih]; rfl
  unfold SeqAt.shaped dtok
  rw [PyData.canLay0, h1, PyData.depth, h2]
  rfl
theorem eqv_tok (l m : List Nat) : PyData.eqv (dtok l) (dtok m) = decide (l = m) := by
  have : ∀ l m : List Nat, PyData.eqvAll (l.map fun (n : Nat) => PyData.int (n : Int)) (m.map fun (n : Nat) => PyData.int (n : Int)) = decide (l = m) := by
    intro l
    induction l with
    | nil => intro m; cases m <;> rfl
    | cons n r ih =>
      intro m
      cases m with
      | nil => rfl
      | cons k s =>
        rw [List.map_cons, List.map_cons, PyData.eqvAll, ih s]
        show (PyData.eqv (.int (n : Int)) (.int (k : Int)) && decide (r = s)) = _
        rw [PyData.eqv, Bool.eq_iff_iff]
        simp
        omega
  unfold dtok
  rw [PyData.eqv]
  exact this l m
theorem eq_read {K : PySem.W.Frag} {p r : Addr} {l m : List Nat} {H : Hp} {Q : VK} (hp : H p = some (.tup (toks l))) (hr : H r = some (.tup (toks m))) (k : Q (.bl (decide (l = m))) H) : rEqD K (.ref p) (.ref r) H Q :=
  ⟨_, _, dp_tok hp, dp_tok hr, shaped_tok l, shaped_tok m, by rw [eqv_tok]; exact k⟩
section
variable {K : PySem.W.Frag} {mg : Str → Option Value}
/-! ### inside, standing_at, swapped -/
def Afile : Nat → V → Hp → Prop := fun g w _ => w = .int (g : Int) ∧ g < 10
def Rinside (K : PySem.W.Frag) : PStep → Nat → V → Hp → Prop := fun p g r H => StepV K H r (inFile g p)
def Aplace : Nat → V → Hp → Prop := fun b w _ => w = .int (b : Int)
def Rstand (K : PySem.W.Frag) : PStep → Nat → V → Hp → Prop := fun p b r H => ∀ f a o n, p = .hunk f a o n → StepV K H r (.hunk f b o n)
theorem ok_Hunk_inside (T : Tx K mg) : Ok K mg 3 ("Hunk", some "inside") ["self", "file"] (sp2 K 0 Afile (Rinside K)) := by
  refine mk_ok T e_Hunk_inside rfl rfl sc_Hunk_inside (fun _ _ _ _ _ _ us hl => match us, hl with | [_, _], _ => rfl) (fun vs H Q E h => ?_) (fun P w base f cdv A outer s H vs Q E hr h => ?_)
  · obtain ⟨v, p, w2, z, rfl, _⟩ := h; rfl
  · obtain ⟨v, p, w2, z, rfl, ⟨hw, x, dx, rfl, hx⟩, hk, hA, q⟩ := h
    refine ⟨_, (pss_one (ps_ret (pe_mk (ok_Hunk_init T) (k_Hunk T) (g_Hunk T) (hr.mono (by decide)) (pa_cons (pv 1) (pa_cons (pe_fld (pv 0) rfl) (pa_cons (pe_fld (pv 0) rfl) (pa_cons (pe_fld (pv 0) rfl) pa_nil))))))), ?_⟩
    cases p with
    | hunk f a o n =>
      obtain ⟨po, pn, hx, ho, hn⟩ := hx
      obtain ⟨rfl, hz⟩ := hA
      exact ⟨_, rfl, _, rfl, x, _, dx, _, _, rfl, hx, c_Hunk T, n_Hunk_place T, l_Hunk_place, _, rfl, x, _, dx, _, _, rfl, hx, c_Hunk T, n_Hunk_old T, l_Hunk_old, _, rfl, x, _, dx, _, _, rfl, hx, c_Hunk T, n_Hunk_new T, l_Hunk_new, make_read rfl fun y dy H' s _ hy => q _ _ s ⟨⟨hz, hw.2⟩, y, dy, rfl, po, pn, hy, s _ _ ho, s _ _ hn⟩⟩
    | swap _ _ _ => cases hk
    | add _ => cases hk
    | remove _ => cases hk
    | move _ _ => cases hk
theorem ok_Swap_inside (T : Tx K mg) : Ok K mg 3 ("Swap", some "inside") ["self", "file"] (sp2 K 1 Afile (Rinside K)) := by
  refine mk_ok T e_Swap_inside rfl rfl sc_Swap_inside (fun _ _ _ _ _ _ us hl => match us, hl with | [_, _], _ => rfl) (fun vs H Q E h => ?_) (fun P w base f cdv A outer s H vs Q E hr h => ?_)
  · obtain ⟨v, p, w2, z, rfl, _⟩ := h; rfl
  · obtain ⟨v, p, w2, z, rfl, ⟨hw, x, dx, rfl, hx⟩, hk, hA, q⟩ := h
    refine ⟨_, (pss_one (ps_ret (pe_mk (ok_Swap_init T) (k_Swap T) (g_Swap T) (hr.mono (by decide)) (pa_cons (pv 1) (pa_cons (pe_fld (pv 0) rfl) (pa_cons (pe_fld (pv 0) rfl) pa_nil)))))), ?_⟩
    cases p with
    | hunk _ _ _ _ => cases hk
    | swap f a b =>
      obtain ⟨rfl, hz⟩ := hA
      exact ⟨_, rfl, _, rfl, x, _, dx, _, _, rfl, hx, c_Swap T, n_Swap_one T, l_Swap_one, _, rfl, x, _, dx, _, _, rfl, hx, c_Swap T, n_Swap_other T, l_Swap_other, make_read rfl fun y dy H' s _ hy => q _ _ s ⟨hz, y, dy, rfl, hy⟩⟩
    | add _ => cases hk
    | remove _ => cases hk
    | move _ _ => cases hk
theorem ok_Hunk_standing_at (T : Tx K mg) : Ok K mg 3 ("Hunk", some "standing_at") ["self", "place"] (sp2 K 0 Aplace (Rstand K)) := by
  refine mk_ok T e_Hunk_standing_at rfl rfl sc_Hunk_standing_at (fun _ _ _ _ _ _ us hl => match us, hl with | [_, _], _ => rfl) (fun vs H Q E h => ?_) (fun P w base f cdv A outer s H vs Q E hr h => ?_)
  · obtain ⟨v, p, w2, z, rfl, _⟩ := h; rfl
  · obtain ⟨v, p, w2, z, rfl, ⟨hw, x, dx, rfl, hx⟩, hk, hA, q⟩ := h
    refine ⟨_, (pss_one (ps_ret (pe_mk (ok_Hunk_init T) (k_Hunk T) (g_Hunk T) (hr.mono (by decide)) (pa_cons (pe_fld (pv 0) rfl) (pa_cons (pv 1) (pa_cons (pe_fld (pv 0) rfl) (pa_cons (pe_fld (pv 0) rfl) pa_nil))))))), ?_⟩
    cases p with
    | hunk f a o n =>
      obtain ⟨po, pn, hx, ho, hn⟩ := hx
      cases hA
      refine ⟨_, rfl, x, _, dx, _, _, rfl, hx, c_Hunk T, n_Hunk_file T, l_Hunk_file, _, rfl, _, rfl, x, _, dx, _, _, rfl, hx, c_Hunk T, n_Hunk_old T, l_Hunk_old, _, rfl, x, _, dx, _, _, rfl, hx, c_Hunk T, n_Hunk_new T, l_Hunk_new, make_read rfl fun y dy H' s _ hy => q _ _ s fun f1 a1 o1 n1 e => ?_⟩
      cases e
      exact ⟨hw, y, dy, rfl, po, pn, hy, s _ _ ho, s _ _ hn⟩
    | swap _ _ _ => cases hk
    | add _ => cases hk
    | remove _ => cases hk
    | move _ _ => cases hk
def Rtokens : PStep → V → Hp → Prop := fun p r H => ∀ f a b, p = .swap f a b → IntsV H r [(a : Int), (b : Int)]
theorem ok_Swap_tokens (T : Tx K mg) : Ok K mg 1 ("Swap", some "tokens") ["self"] (sp1 K 1 Rtokens) := by
  refine mk_ok T e_Swap_tokens rfl rfl sc_Swap_tokens (fun _ _ _ _ _ _ us hl => match us, hl with | [_], _ => rfl) (fun vs H Q E h => ?_) (fun P w base f cdv A outer s H vs Q E hr h => ?_)
  · obtain ⟨v, p, rfl, _⟩ := h; rfl
  · obtain ⟨v, p, rfl, ⟨hw, x, dx, rfl, hx⟩, hk, q⟩ := h
    refine ⟨_, (pss_one (ps_ret (pe_lst (pa_cons (pe_fld (pv 0) rfl) (pa_cons (pe_fld (pv 0) rfl) pa_nil))))), ?_⟩
    cases p with
    | hunk _ _ _ _ => cases hk
    | swap f a b =>
      refine ⟨_, rfl, x, _, dx, _, _, rfl, hx, c_Swap T, n_Swap_one T, l_Swap_one, _, rfl, x, _, dx, _, _, rfl, hx, c_Swap T, n_Swap_other T, l_Swap_other, by show 2 ≤ sizeLine; decide, fun r hr2 => q _ _ (same_new hr2) fun f1 a1 b1 e => ?_⟩
      cases e
      exact ⟨r, rfl, upd_same⟩
    | add _ => cases hk
    | remove _ => cases hk
    | move _ _ => cases hk
def Rswin : PStep → List Nat → V → Hp → Prop := fun p l r H => ∀ f a b, p = .swap f a b → TupV H r (swapAll a b l)
theorem swap_dict (a b t : Nat) : (valV (mergeK [] [(Sum.inl (a : Int), V.int (b : Int)), (Sum.inl (b : Int), V.int (a : Int))]) (Sum.inl (t : Int))).getD (V.int (t : Int)) = V.int ((VapatBase.swapToken a b t : Nat) : Int) := by
  have e : ∀ x y : Nat, ((Sum.inl (x : Int) : Key) = Sum.inl (y : Int)) ↔ x = y := fun x y => ⟨fun h => by have := Sum.inl.inj h; omega, fun h => by rw [h]⟩
  show (valV (putK (putK [] (Sum.inl (a : Int)) (V.int (b : Int))) (Sum.inl (b : Int)) (V.int (a : Int))) (Sum.inl (t : Int))).getD (V.int (t : Int)) = _
  rw [valV_put, valV_put, valV_nil]
  simp only [e]
  unfold VapatBase.swapToken
  by_cases h1 : t = b
  · subst h1
    rw [if_pos rfl]
    split
    · next h => rw [h]; rfl
    · rw [if_pos rfl]; rfl
  · rw [if_neg h1]
    split
    · rfl
    · rfl
theorem ok_Swap_swapped_in (T : Tx K mg) : Ok K mg 1 ("Swap", some "swapped_in") ["self", "tokens"] (sp2 K 1 (fun l w H => TupV H w l ∧ l.length ≤ 100000) Rswin) := by
  refine mk_ok T e_Swap_swapped_in rfl rfl sc_Swap_swapped_in (fun _ _ _ _ _ _ us hl => match us, hl with | [_, _], _ => rfl) (fun vs H Q E h => ?_) (fun P w base f cdv A outer s H vs Q E hr h => ?_)
  · obtain ⟨v, p, w2, z, rfl, _⟩ := h; rfl
  · obtain ⟨v, p, w2, z, rfl, ⟨hw, x, dx, rfl, hx⟩, hk, hA, q⟩ := h
    refine ⟨_, (pss_cons (ps_set (i := 2) sc_Swap_swapped_in.nd rfl (Or.inr rfl) (pe_disp (pps_cons (pe_fld (pv 0) rfl) (pe_fld (pv 0) rfl) (pps_cons (pe_fld (pv 0) rfl) (pe_fld (pv 0) rfl) pps_nil)) (by rfl) (by rfl) (fun z => by cases z) (by decide))) (pss_one (ps_ret (pe_callTy call_tuple_of (by rfl) (z_tuple T) (by decide +kernel) (pa_cons (pe_lc (own := [("token", 3)]) (g := gName 3) (by rfl) sc_Swap_swapped_in.nd (pi_tup (pv 1)) (blkOk_by (own := [("token", 3)]) (N := nm_Swap_swapped_in) (sc := defScope s_Swap_swapped_in) (by decide +kernel)) (fun _ _ _ _ _ => pg_name (i := 3) sc_Swap_swapped_in.nd rfl (Or.inl rfl)) (fun _ _ _ _ _ => pts_nil) (fun _ _ _ _ _ => (pe_dget2 (hu_of hr) (pv 2) (pv 3) (pv 3) ⟨rfl, rfl, rfl, rfl⟩))) pa_nil))))), ?_⟩
    cases p with
    | hunk _ _ _ _ => cases hk
    | swap f a b =>
      obtain ⟨⟨pt, rfl, ht⟩, hl⟩ := hA
      intro d hd
      have s0 := same_new (o := .dK []) hd
      refine ⟨_, rfl, x, _, dx, _, _, rfl, (s0 _ _ hx), c_Swap T, n_Swap_one T, l_Swap_one, _, rfl, x, _, dx, _, _, rfl, (s0 _ _ hx), c_Swap T, n_Swap_other T, l_Swap_other, _, rfl, x, _, dx, _, _, rfl, (s0 _ _ hx), c_Swap T, n_Swap_other T, l_Swap_other, _, rfl, x, _, dx, _, _, rfl, (s0 _ _ hx), c_Swap T, n_Swap_one T, l_Swap_one, upd_same, [(Sum.inl (a : Int), .int (b : Int)), (Sum.inl (b : Int), .int (a : Int))], rfl, by show 2 ≤ 15; decide, ?_⟩
      rw [upd_upd]
      have s1 := same_new (o := .dK (mergeK [] [(Sum.inl (a : Int), V.int (b : Int)), (Sum.inl (b : Int), V.int (a : Int))])) hd
      have hz : (toks z).length < sizeLine := by rw [List.length_map]; exact Nat.lt_of_le_of_lt hl (by decide)
      refine ⟨_, rfl, pt, rfl, ⟨_, SqT.of (s1 _ _ ht)⟩, fun D hD => comp_map L2.walk_tup (fun v => match v with | .int t => .int ((VapatBase.swapToken a b t.toNat : Nat) : Int) | u => u) hz (fun acc => SqT.of (same_new hD _ _ (s1 _ _ ht))) (fun y hy acc Q2 q2 => ?_) ?_⟩
      · obtain ⟨t, _, rfl⟩ := List.mem_map.mp hy
        have hd2 : upd (upd H d (.dK (mergeK [] [(Sum.inl (a : Int), V.int (b : Int)), (Sum.inl (b : Int), V.int (a : Int))]))) D (.lst acc) d = some (.dK (mergeK [] [(Sum.inl (a : Int), V.int (b : Int)), (Sum.inl (b : Int), V.int (a : Int))])) := same_new hD _ _ upd_same
        refine ⟨_, rfl, d, rfl, .inl ⟨_, .inl hd2⟩, _, rfl, _, rfl, _, DGet.k (k := Sum.inl (t : Int)) hd2, ?_⟩
        rw [swap_dict]
        exact q2
      · refine ⟨D, _, rfl, .inl ⟨SqL.of upd_same, fun r hr2 => ?_⟩⟩
        refine q _ _ ((s1.trans (same_new hD)).trans (same_new hr2)) fun f1 a1 b1 e => ?_
        cases e
        refine ⟨r, rfl, ?_⟩
        rw [upd_same]
        refine congrArg (fun w => some (HO.tup w)) ?_
        rw [toks, toks, VapatBase.swapAll, List.map_map, List.map_map]
        rfl
    | add _ => cases hk
    | remove _ => cases hk
    | move _ _ => cases hk
def Aswap (K : PySem.W.Frag) : PStep → V → Hp → Prop := fun s w H => StepV K H w s ∧ kd s = 1
def Rswapped (K : PySem.W.Frag) : PStep → PStep → V → Hp → Prop := fun p s r H => ∀ f a o n f2 x y, p = .hunk f a o n → s = .swap f2 x y → StepV K H r (.hunk f a (swapAll x y o) (swapAll x y n))
theorem ok_Hunk_swapped (T : Tx K mg) : Ok K mg 3 ("Hunk", some "swapped") ["self", "swap"] (sp2 K 0 (Aswap K) (Rswapped K)) := by
  refine mk_ok T e_Hunk_swapped rfl rfl sc_Hunk_swapped (fun _ _ _ _ _ _ us hl => match us, hl with | [_, _], _ => rfl) (fun vs H Q E h => ?_) (fun P w base f cdv A outer s H vs Q E hr h => ?_)
  · obtain ⟨v, p, w2, z, rfl, _⟩ := h; rfl
  · obtain ⟨v, p, w2, z, rfl, ⟨hw, x, dx, rfl, hx⟩, hk, ⟨hz, hzk⟩, q⟩ := h
    refine ⟨_, (pss_one (ps_ret (pe_mk (ok_Hunk_init T) (k_Hunk T) (g_Hunk T) (hr.mono (by decide)) (pa_cons (pe_fld (pv 0) rfl) (pa_cons (pe_fld (pv 0) rfl) (pa_cons (pe_mp (k := 1) (pv 1) (hr.mono (by decide)) (pa_cons (pe_fld (pv 0) rfl) pa_nil)) (pa_cons (pe_mp (k := 1) (pv 1) (hr.mono (by decide)) (pa_cons (pe_fld (pv 0) rfl) pa_nil)) pa_nil))))))), ?_⟩
    cases p with
    | hunk f a o n =>
      obtain ⟨po, pn, hx, ho, hn⟩ := hx
      cases z with
      | swap f2 a2 b2 =>
        obtain ⟨y, dy, fs, rfl, hy, hno⟩ := hz.ins
        have mo := m_ok (c_Swap T) (m_Swap_swapped_in T) (ok_Swap_swapped_in T)
        refine ⟨_, rfl, x, _, dx, _, _, rfl, hx, c_Hunk T, n_Hunk_file T, l_Hunk_file, _, rfl, x, _, dx, _, _, rfl, hx, c_Hunk T, n_Hunk_place T, l_Hunk_place, _, rfl, _, y, dy, fs, _, mo, rfl, hy, hno _ (by decide +kernel), _, rfl, x, _, dx, _, _, rfl, hx, c_Hunk T, n_Hunk_old T, l_Hunk_old, _, _, _, o, rfl, hz, rfl, ⟨⟨po, rfl, ho⟩, Nat.le_trans hw.2.1 (by decide)⟩, fun r1 H1 s1 h1 => ?_⟩
        obtain ⟨p1, rfl, g1⟩ := h1 _ _ _ rfl
        refine ⟨_, rfl, _, y, dy, fs, _, mo, rfl, s1 _ _ hy, hno _ (by decide +kernel), _, rfl, x, _, dx, _, _, rfl, (s1 _ _ hx), c_Hunk T, n_Hunk_new T, l_Hunk_new, _, _, _, n, rfl, hz.same s1, rfl, ⟨⟨pn, rfl, s1 _ _ hn⟩, Nat.le_trans hw.2.2 (by decide)⟩, fun r2 H2 s2 h2 => ?_⟩
        obtain ⟨p2, rfl, g2⟩ := h2 _ _ _ rfl
        refine make_read rfl fun u du H3 s3 _ hu => q _ _ ((s1.trans s2).trans s3) fun f3 a3 o3 n3 f4 x4 y4 e1 e2 => ?_
        cases e1
        cases e2
        exact ⟨⟨hw.1, by rw [swapAll_len]; exact hw.2.1, by rw [swapAll_len]; exact hw.2.2⟩, u, du, rfl, p1, p2, hu, s3 _ _ (s2 _ _ g1), s3 _ _ g2⟩
      | hunk _ _ _ _ => cases hzk
      | add _ => cases hzk
      | remove _ => cases hzk
      | move _ _ => cases hzk
    | swap _ _ _ => cases hk
    | add _ => cases hk
    | remove _ => cases hk
    | move _ _ => cases hk
/-! ### fits, VapatBase.applied -/
def Atree : VapatBase.Tree × Nat → V → Hp → Prop := fun t w H => wfT t.2 t.1 ∧ t.2 ≤ 100000 ∧ TreeV H w t.1
def Rfits : PStep → VapatBase.Tree × Nat → V → Hp → Prop := fun p t r _ => r = .bl (VapatBase.applied t.1 p).isSome
def Rapplied : PStep → VapatBase.Tree × Nat → V → Hp → Prop := fun p t r H => ∀ u, VapatBase.applied t.1 p = some u → TreeV H r u
/-- d[k] where the tree has the file -/
theorem get_at {H : Hp} {d : Addr} {kvs : List (Key × V)} {f : Nat} {v : V} (hd : H d = some (.dK kvs)) (hv : valV kvs (Sum.inl (f : Int)) = some v) : DGet H d (.int (f : Int)) (some v) := by
  have := DGet.k (k := Sum.inl (f : Int)) hd
  rw [hv] at this
  exact this
theorem in_at_ {H : Hp} {d : Addr} {kvs : List (Key × V)} {f : Nat} {b : Bool} (hd : H d = some (.dK kvs)) (hv : (valV kvs (Sum.inl (f : Int))).isSome = b) : ∃ o, DGet H d (.int (f : Int)) o ∧ o.isSome = b :=
  ⟨_, DGet.k (k := Sum.inl (f : Int)) hd, hv⟩
theorem ok_Hunk_fits (T : Tx K mg) : Ok K mg 1 ("Hunk", some "fits") ["self", "tree"] (sp2 K 0 Atree Rfits) := by
  refine mk_ok T e_Hunk_fits rfl rfl sc_Hunk_fits (fun _ _ _ _ _ _ us hl => match us, hl with | [_, _], _ => rfl) (fun vs H Q E h => ?_) (fun P w base f cdv A outer s H vs Q E hr h => ?_)
  · obtain ⟨v, p, w2, z, rfl, _⟩ := h; rfl
  · obtain ⟨v, p, w2, ⟨t, m⟩, rfl, ⟨hw, x, dx, rfl, hx⟩, hk, ⟨ht, hm, ⟨d, kvs, rfl, hd, hp, hv⟩⟩, q⟩ := h
    refine ⟨_, (pss_cons (ps_if (PW.pt (pw_or (pt_cmp (pc_dnotin (hu_of hr) (pe_fld (pv 0) rfl) (pv 1)) (by rfl)) (pw_or1 (pt_cmpR op_gt (pe_fld (pv 0) rfl) (pe_callB call_len_seq (by rfl) (z_len T) (by decide +kernel) (pa_cons (pe_dget (hu_of hr) (pv 1) (pe_fld (pv 0) rfl) (fun _ _ => rfl)) pa_nil)) (nomark _))))) (pss_one (ps_ret pe_bl)) pss_nil) (pss_one (ps_ret (pe_cmpR (op_eqD hr.units) (pe_slice sl_tupA (pe_dget (hu_of hr) (pv 1) (pe_fld (pv 0) rfl) (fun _ _ => rfl)) (po_some (pe_fld (pv 0) rfl)) (po_some (pe_op op_add (pe_fld (pv 0) rfl) (pe_callB call_len_seq (by rfl) (z_len T) (by decide +kernel) (pa_cons (pe_fld (pv 0) rfl) pa_nil))))) (pe_fld (pv 0) rfl) (nomark _))))), ?_⟩
    have tv := fun g => tree_val (H := H) hp g
    cases p with
    | hunk f a o n =>
      obtain ⟨po, pn, hx, ho, hn⟩ := hx
      have ret : ∀ b : Bool, (VapatBase.applied t (.hunk f a o n)).isSome = b → ∀ H', Same H H' → Q (.bl b) H' := fun b e H' s' => q _ _ s' (by rw [Rfits, e])
      obtain ⟨od, hgd, hod⟩ := in_at_ (f := f) hd (tv f)
      refine ⟨_, rfl, x, _, dx, _, _, rfl, hx, c_Hunk T, n_Hunk_file T, l_Hunk_file, _, rfl, d, od, rfl, hgd, _, rfl, ?_⟩
      rw [hod]
      cases e : fileIn t f with
      | none => exact ret _ (by simp [VapatBase.applied, e]) _ (Same.refl _)
      | some c =>
        obtain ⟨pc, h1, h2⟩ := tree_get hv e
        have hg := get_at hd h1
        refine ⟨_, rfl, x, _, dx, _, _, rfl, hx, c_Hunk T, n_Hunk_place T, l_Hunk_place, _, rfl, _, rfl, x, _, dx, _, _, rfl, hx, c_Hunk T, n_Hunk_file T, l_Hunk_file, d, _, rfl, hg, pc, _, rfl, .inr (SqT.of h2), _, _, rfl, rfl, _, rfl, ?_⟩
        have lc : (toks c).length = c.length := by rw [List.length_map]
        refine ite2 (fun c1 => ret _ ?_ _ (Same.refl _)) (fun c1 => ?_)
        · have := of_decide_eq_true c1
          rw [lc] at this
          have hn : ¬ (a ≤ c.length ∧ (c.drop a).take o.length = o) := fun k => by have := k.1; omega
          simp only [VapatBase.applied, e, Option.bind_some, VapatBase.spliced, if_neg hn]
          rfl
        · have ha : a ≤ c.length := by
            have := of_decide_eq_false (Bool.eq_false_iff.mpr c1)
            rw [lc] at this
            omega
          refine ⟨_, rfl, _, rfl, x, _, dx, _, _, rfl, hx, c_Hunk T, n_Hunk_file T, l_Hunk_file, d, _, rfl, hg, _, rfl, x, _, dx, _, _, rfl, hx, c_Hunk T, n_Hunk_place T, l_Hunk_place, _, rfl, _, rfl, x, _, dx, _, _, rfl, hx, c_Hunk T, n_Hunk_place T, l_Hunk_place, _, rfl, x, _, dx, _, _, rfl, hx, c_Hunk T, n_Hunk_old T, l_Hunk_old, po, _, rfl, .inr (SqT.of ho), _, _, rfl, rfl, _, rfl, ?_⟩
          refine sl_read h2 fun r H1 s1 hr1 => ?_
          rw [cut_tok c _ _ a (a + o.length) rfl (by rw [List.length_map]; omega) ha, show a + o.length - a = o.length from by omega] at hr1
          refine ⟨_, rfl, x, _, dx, _, _, rfl, (s1 _ _ hx), c_Hunk T, n_Hunk_old T, l_Hunk_old, eq_read hr1 (s1 _ _ ho) (ret _ ?_ _ s1)⟩
          by_cases k : (c.drop a).take o.length = o
          · simp only [VapatBase.applied, e, Option.bind_some, VapatBase.spliced, if_pos (And.intro ha k)]
            simp [k]
          · have hn : ¬ (a ≤ c.length ∧ (c.drop a).take o.length = o) := fun z => k z.2
            simp only [VapatBase.applied, e, Option.bind_some, VapatBase.spliced, if_neg hn]
            simp [k]
    | swap _ _ _ => cases hk
    | add _ => cases hk
    | remove _ => cases hk
    | move _ _ => cases hk
theorem ok_Swap_fits (T : Tx K mg) : Ok K mg 1 ("Swap", some "fits") ["self", "tree"] (sp2 K 1 Atree Rfits) := by
  refine mk_ok T e_Swap_fits rfl rfl sc_Swap_fits (fun _ _ _ _ _ _ us hl => match us, hl with | [_, _], _ => rfl) (fun vs H Q E h => ?_) (fun P w base f cdv A outer s H vs Q E hr h => ?_)
  · obtain ⟨v, p, w2, z, rfl, _⟩ := h; rfl
  · obtain ⟨v, p, w2, ⟨t, m⟩, rfl, ⟨hw, x, dx, rfl, hx⟩, hk, ⟨ht, hm, ⟨d, kvs, rfl, hd, hp, hv⟩⟩, q⟩ := h
    refine ⟨_, (pss_one (ps_ret (pe_cmp (pc_din (hu_of hr) (pe_fld (pv 0) rfl) (pv 1)) (by rfl)))), ?_⟩
    have tv := fun g => tree_val (H := H) hp g
    cases p with
    | hunk _ _ _ _ => cases hk
    | swap f a b =>
      obtain ⟨od, hgd, hod⟩ := in_at_ (f := f) hd (tv f)
      refine ⟨_, rfl, x, _, dx, _, _, rfl, hx, c_Swap T, n_Swap_file T, l_Swap_file, _, rfl, d, od, rfl, hgd, q _ _ (Same.refl _) ?_⟩
      rw [Rfits, hod]
      simp [VapatBase.applied]
    | add _ => cases hk
    | remove _ => cases hk
    | move _ _ => cases hk
theorem ok_Added_fits (T : Tx K mg) : Ok K mg 1 ("Added", some "fits") ["self", "tree"] (sp2 K 2 Atree Rfits) := by
  refine mk_ok T e_Added_fits rfl rfl sc_Added_fits (fun _ _ _ _ _ _ us hl => match us, hl with | [_, _], _ => rfl) (fun vs H Q E h => ?_) (fun P w base f cdv A outer s H vs Q E hr h => ?_)
  · obtain ⟨v, p, w2, z, rfl, _⟩ := h; rfl
  · obtain ⟨v, p, w2, ⟨t, m⟩, rfl, ⟨hw, x, dx, rfl, hx⟩, hk, ⟨ht, hm, ⟨d, kvs, rfl, hd, hp, hv⟩⟩, q⟩ := h
    refine ⟨_, (pss_one (ps_ret (pe_cmp (pc_dnotin (hu_of hr) (pe_fld (pv 0) rfl) (pv 1)) (by rfl)))), ?_⟩
    have tv := fun g => tree_val (H := H) hp g
    cases p with
    | hunk _ _ _ _ => cases hk
    | swap _ _ _ => cases hk
    | add f =>
      obtain ⟨od, hgd, hod⟩ := in_at_ (f := f) hd (tv f)
      refine ⟨_, rfl, x, _, dx, _, _, rfl, hx, c_Added T, n_Added_file T, l_Added_file, _, rfl, d, od, rfl, hgd, q _ _ (Same.refl _) ?_⟩
      rw [Rfits, hod]
      cases e : fileIn t f <;> simp [VapatBase.applied, e]
    | remove _ => cases hk
    | move _ _ => cases hk
theorem ok_Removed_fits (T : Tx K mg) : Ok K mg 1 ("Removed", some "fits") ["self", "tree"] (sp2 K 3 Atree Rfits) := by
  refine mk_ok T e_Removed_fits rfl rfl sc_Removed_fits (fun _ _ _ _ _ _ us hl => match us, hl with | [_, _], _ => rfl) (fun vs H Q E h => ?_) (fun P w base f cdv A outer s H vs Q E hr h => ?_)
  · obtain ⟨v, p, w2, z, rfl, _⟩ := h; rfl
  · obtain ⟨v, p, w2, ⟨t, m⟩, rfl, ⟨hw, x, dx, rfl, hx⟩, hk, ⟨ht, hm, ⟨d, kvs, rfl, hd, hp, hv⟩⟩, q⟩ := h
    refine ⟨_, (pss_one (ps_ret (pe_and (pe_cmp (pc_din (hu_of hr) (pe_fld (pv 0) rfl) (pv 1)) (by rfl)) (pe_one (pe_cmpR op_eq (pe_callB call_len_seq (by rfl) (z_len T) (by decide +kernel) (pa_cons (pe_dget (hu_of hr) (pv 1) (pe_fld (pv 0) rfl) (fun _ _ => rfl)) pa_nil)) pe_int (nomark _)))))), ?_⟩
    have tv := fun g => tree_val (H := H) hp g
    cases p with
    | hunk _ _ _ _ => cases hk
    | swap _ _ _ => cases hk
    | add _ => cases hk
    | remove f =>
      obtain ⟨od, hgd, hod⟩ := in_at_ (f := f) hd (tv f)
      refine ⟨_, rfl, x, _, dx, _, _, rfl, hx, c_Removed T, n_Removed_file T, l_Added_file, _, rfl, d, od, rfl, hgd, _, rfl, ?_⟩
      rw [hod]
      cases e : fileIn t f with
      | none => exact q _ _ (Same.refl _) (by simp [Rfits, VapatBase.applied, e])
      | some c =>
        obtain ⟨pc, h1, h2⟩ := tree_get hv e
        refine ⟨_, rfl, _, rfl, x, _, dx, _, _, rfl, hx, c_Removed T, n_Removed_file T, l_Added_file, d, _, rfl, get_at hd h1, pc, _, rfl, .inr (SqT.of h2), rfl, q _ _ (Same.refl _) ?_⟩
        rw [Rfits]
        cases c <;> simp [VapatBase.applied, e]
        all_goals omega
    | move _ _ => cases hk
theorem ok_Moved_fits (T : Tx K mg) : Ok K mg 1 ("Moved", some "fits") ["self", "tree"] (sp2 K 4 Atree Rfits) := by
  refine mk_ok T e_Moved_fits rfl rfl sc_Moved_fits (fun _ _ _ _ _ _ us hl => match us, hl with | [_, _], _ => rfl) (fun vs H Q E h => ?_) (fun P w base f cdv A outer s H vs Q E hr h => ?_)
  · obtain ⟨v, p, w2, z, rfl, _⟩ := h; rfl
  · obtain ⟨v, p, w2, ⟨t, m⟩, rfl, ⟨hw, x, dx, rfl, hx⟩, hk, ⟨ht, hm, ⟨d, kvs, rfl, hd, hp, hv⟩⟩, q⟩ := h
    refine ⟨_, (pss_one (ps_ret (pe_and (pe_cmp (pc_din (hu_of hr) (pe_fld (pv 0) rfl) (pv 1)) (by rfl)) (pe_one (pe_cmp (pc_dnotin (hu_of hr) (pe_fld (pv 0) rfl) (pv 1)) (by rfl)))))), ?_⟩
    have tv := fun g => tree_val (H := H) hp g
    cases p with
    | hunk _ _ _ _ => cases hk
    | swap _ _ _ => cases hk
    | add _ => cases hk
    | remove _ => cases hk
    | move f g =>
      obtain ⟨od, hgd, hod⟩ := in_at_ (f := f) hd (tv f)
      refine ⟨_, rfl, x, _, dx, _, _, rfl, hx, c_Moved T, n_Moved_old_name T, l_Moved_old_name, _, rfl, d, od, rfl, hgd, _, rfl, ?_⟩
      rw [hod]
      cases e : fileIn t f with
      | none => exact q _ _ (Same.refl _) (by simp [Rfits, VapatBase.applied, e])
      | some c =>
        obtain ⟨od2, hgd2, hod2⟩ := in_at_ (f := g) hd (tv g)
        refine ⟨_, rfl, x, _, dx, _, _, rfl, hx, c_Moved T, n_Moved_new_name T, l_Moved_new_name, _, rfl, d, od2, rfl, hgd2, q _ _ (Same.refl _) ?_⟩
        rw [Rfits, hod2]
        cases e2 : fileIn t g <;> simp [VapatBase.applied, e, e2]
end
end Rw
end
section
set_option Elab.async false
set_option linter.all false
set_option maxRecDepth 100000
set_option maxHeartbeats 4000000
namespace Rw
open PySem PySem.Spec PyProof.Rows L2
open VapatBase (fileIn putFile dropFile namesOf flatStep inFile swapAll)
section
variable {K : PySem.W.Frag} {mg : Str → Option Value}
def spApplied (K : PySem.W.Frag) (k : Nat) : Sp := fun vs H Q _ => ∃ v p w t m u, vs = [v, w] ∧ StepV K H v p ∧ kd p = k ∧ wfT m t ∧ m ≤ 100000 ∧ TreeV H w t ∧ VapatBase.applied t p = some u ∧ ∀ r H', Same H H' → TreeV H' r u → Q r H'
theorem tok_len {c : List Nat} {m : Nat} (h : c.length ≤ m) (hm : m ≤ 100000) {k : Nat} (hk : k ≤ 100000) : c.length + k ≤ sizeLine := Nat.le_trans (Nat.add_le_add (Nat.le_trans h hm) hk) (by decide)
theorem ok_Hunk_applied (T : Tx K mg) : Ok K mg 3 ("Hunk", some "applied") ["self", "tree"] (spApplied K 0) := by
  refine mk_ok T e_Hunk_applied rfl rfl sc_Hunk_applied (fun _ _ _ _ _ _ us hl => match us, hl with | [_, _], _ => rfl) (fun vs H Q E h => ?_) (fun P w base f cdv A outer s H vs Q E hr h => ?_)
  · obtain ⟨v, p, w2, t, m, u, rfl, _⟩ := h; rfl
  · obtain ⟨v, p, w2, t, m, u, rfl, ⟨hw, x, dx, rfl, hx⟩, hk, ht, hm, hT, hu, q⟩ := h
    obtain ⟨d, kvs, rfl, hd, hp, hv⟩ := id hT
    refine ⟨_, (pss_cons (ps_set (i := 2) sc_Hunk_applied.nd rfl (Or.inl rfl) (pe_dget (hu_of hr) (pv 1) (pe_fld (pv 0) rfl) (fun _ _ => rfl))) (pss_cons (ps_set (i := 3) sc_Hunk_applied.nd rfl (Or.inl rfl) (pe_slice sl_tupA (pv 2) (po_some (pe_op op_add (pe_fld (pv 0) rfl) (pe_callB call_len_seq (by rfl) (z_len T) (by decide +kernel) (pa_cons (pe_fld (pv 0) rfl) pa_nil)))) po_none)) (pss_one (ps_ret (pe_f (ok_with_file T) (g_with_file T) (hr.mono (by decide)) (pa_cons (pv 1) (pa_cons (pe_fld (pv 0) rfl) (pa_cons (pe_op op_catA (pe_op op_catA (pe_slice sl_tupA (pv 2) po_none (po_some (pe_fld (pv 0) rfl))) (pe_fld (pv 0) rfl)) (pv 3)) pa_nil)))))))), ?_⟩
    cases p with
    | hunk f a o n =>
      obtain ⟨po, pn, hx, ho, hn⟩ := hx
      obtain ⟨c, e, hf, hs, rfl⟩ := (applied_at_iff t u f (.h a o n)).mp hu
      obtain ⟨A, B, rfl, rfl, rfl⟩ := (spliced_iff _ _ _ _ _).mp hs
      obtain ⟨pc, h1, h2⟩ := tree_get hv hf
      have hc := (ht.file hf).2
      refine ⟨_, rfl, _, rfl, x, _, dx, _, _, rfl, hx, c_Hunk T, n_Hunk_file T, l_Hunk_file, d, _, rfl, get_at hd h1, ?_⟩
      refine ⟨_, rfl, _, rfl, x, _, dx, _, _, rfl, hx, c_Hunk T, n_Hunk_place T, l_Hunk_place, _, rfl, x, _, dx, _, _, rfl, hx, c_Hunk T, n_Hunk_old T, l_Hunk_old, po, _, rfl, .inr (SqT.of ho), _, _, rfl, rfl, _, rfl, ?_⟩
      dsimp only [tNoPart]
      refine sl_read h2 fun r1 H1 s1 g1 => ?_
      rw [cut_from _ _ (A.length + o.length) (by rw [List.length_map]; omega)] at g1
      have e1 : (A ++ (o ++ B)).drop (A.length + o.length) = B := by rw [← List.drop_drop]; simp
      rw [e1] at g1
      refine ⟨_, rfl, _, rfl, x, _, dx, _, _, rfl, (s1 _ _ hx), c_Hunk T, n_Hunk_file T, l_Hunk_file, _, rfl, _, rfl, x, _, dx, _, _, rfl, (s1 _ _ hx), c_Hunk T, n_Hunk_place T, l_Hunk_place, _, rfl, sl_read (s1 _ _ h2) fun r2 H2 s2 g2 => ?_⟩
      rw [cut_to _ _ A.length rfl (by simp)] at g2
      have e2 : (A ++ (o ++ B)).take A.length = A := by simp
      rw [e2] at g2
      have s12 := s1.trans s2
      simp only [List.length_append] at hc
      have hn8 := hw.2.2
      refine ⟨_, rfl, x, _, dx, _, _, rfl, (s12 _ _ hx), c_Hunk T, n_Hunk_new T, l_Hunk_new, cat_read g2 (s12 _ _ hn) (by rw [List.length_map, List.length_map]; exact tok_len (c := A) (m := m) (by omega) hm (by omega)) fun r3 H3 s3 g3 => ?_⟩
      refine ⟨_, rfl, cat_read g3 (s3 _ _ (s2 _ _ g1)) (by rw [List.length_append, List.length_map, List.length_map, List.length_map]; have : A.length + n.length + B.length ≤ 200000 := by omega
                                                           exact Nat.le_trans this (by decide)) fun r4 H4 s4 g4 => ?_⟩
      have s14 := (s12.trans s3).trans s4
      refine ⟨_, _, f, m, t, A ++ (n ++ B), rfl, ht, hT.same s14, ⟨r4, rfl, ?_⟩, fun r H' s' h' => q _ _ (s14.trans s') h'⟩
      rw [g4]
      simp [toks]
    | swap _ _ _ => cases hk
    | add _ => cases hk
    | remove _ => cases hk
    | move _ _ => cases hk
theorem ok_Swap_applied (T : Tx K mg) : Ok K mg 3 ("Swap", some "applied") ["self", "tree"] (spApplied K 1) := by
  refine mk_ok T e_Swap_applied rfl rfl sc_Swap_applied (fun _ _ _ _ _ _ us hl => match us, hl with | [_, _], _ => rfl) (fun vs H Q E h => ?_) (fun P w base f cdv A outer s H vs Q E hr h => ?_)
  · obtain ⟨v, p, w2, t, m, u, rfl, _⟩ := h; rfl
  · obtain ⟨v, p, w2, t, m, u, rfl, ⟨hw, x, dx, rfl, hx⟩, hk, ht, hm, hT, hu, q⟩ := h
    obtain ⟨d, kvs, rfl, hd, hp, hv⟩ := id hT
    refine ⟨_, (pss_one (ps_ret (pe_f (ok_with_file T) (g_with_file T) (hr.mono (by decide)) (pa_cons (pv 1) (pa_cons (pe_fld (pv 0) rfl) (pa_cons (pe_mp (k := 1) (pv 0) (hr.mono (by decide)) (pa_cons (pe_dget (hu_of hr) (pv 1) (pe_fld (pv 0) rfl) (fun _ _ => rfl)) pa_nil)) pa_nil)))))), ?_⟩
    cases p with
    | hunk _ _ _ _ => cases hk
    | swap f a b =>
      obtain ⟨c, e, hf, hs, rfl⟩ := (applied_at_iff t u f (.s a b)).mp hu
      cases hs
      obtain ⟨pc, h1, h2⟩ := tree_get hv hf
      have hc := (ht.file hf).2
      have mo := m_ok (c_Swap T) (m_Swap_swapped_in T) (ok_Swap_swapped_in T)
      refine ⟨_, rfl, _, rfl, x, _, dx, _, _, rfl, hx, c_Swap T, n_Swap_file T, l_Swap_file, _, rfl, _, x, dx, _, _, mo, rfl, hx, l_Swap_no (by decide +kernel) (by decide +kernel) (by decide +kernel), _, rfl, _, rfl, x, _, dx, _, _, rfl, hx, c_Swap T, n_Swap_file T, l_Swap_file, d, _, rfl, get_at hd h1, _, _, _, c, rfl, ⟨hw, x, dx, rfl, hx⟩, rfl, ⟨⟨pc, rfl, h2⟩, ?_⟩, fun r1 H1 s1 g1 => ?_⟩
      · exact Nat.le_trans hc hm
      refine ⟨_, _, f, m, t, _, rfl, ht, hT.same s1, g1 _ _ _ rfl, fun r H' s' h' => q _ _ (s1.trans s') h'⟩
    | add _ => cases hk
    | remove _ => cases hk
    | move _ _ => cases hk
theorem ok_Added_applied (T : Tx K mg) : Ok K mg 3 ("Added", some "applied") ["self", "tree"] (spApplied K 2) := by
  refine mk_ok T e_Added_applied rfl rfl sc_Added_applied (fun _ _ _ _ _ _ us hl => match us, hl with | [_, _], _ => rfl) (fun vs H Q E h => ?_) (fun P w base f cdv A outer s H vs Q E hr h => ?_)
  · obtain ⟨v, p, w2, t, m, u, rfl, _⟩ := h; rfl
  · obtain ⟨v, p, w2, t, m, u, rfl, ⟨hw, x, dx, rfl, hx⟩, hk, ht, hm, hT, hu, q⟩ := h
    obtain ⟨d, kvs, rfl, hd, hp, hv⟩ := id hT
    refine ⟨_, (pss_one (ps_ret (pe_f (ok_with_file T) (g_with_file T) (hr.mono (by decide)) (pa_cons (pv 1) (pa_cons (pe_fld (pv 0) rfl) (pa_cons (pe_tup pa_nil) pa_nil)))))), ?_⟩
    cases p with
    | hunk _ _ _ _ => cases hk
    | swap _ _ _ => cases hk
    | add f =>
      obtain ⟨_, rfl⟩ := (applied_add_iff _ _ _).mp hu
      refine ⟨_, rfl, _, rfl, x, _, dx, _, _, rfl, hx, c_Added T, n_Added_file T, l_Added_file, by show 0 ≤ sizeLine; exact Nat.zero_le _, fun r1 h1 => ?_⟩
      have s1 := same_new (o := .tup []) h1
      exact ⟨_, _, f, m, t, [], rfl, ht, hT.same s1, ⟨r1, rfl, upd_same⟩, fun r H' s' h' => q _ _ (s1.trans s') h'⟩
    | remove _ => cases hk
    | move _ _ => cases hk
theorem ok_Removed_applied (T : Tx K mg) : Ok K mg 3 ("Removed", some "applied") ["self", "tree"] (spApplied K 3) := by
  refine mk_ok T e_Removed_applied rfl rfl sc_Removed_applied (fun _ _ _ _ _ _ us hl => match us, hl with | [_, _], _ => rfl) (fun vs H Q E h => ?_) (fun P w base f cdv A outer s H vs Q E hr h => ?_)
  · obtain ⟨v, p, w2, t, m, u, rfl, _⟩ := h; rfl
  · obtain ⟨v, p, w2, t, m, u, rfl, ⟨hw, x, dx, rfl, hx⟩, hk, ht, hm, hT, hu, q⟩ := h
    obtain ⟨d, kvs, rfl, hd, hp, hv⟩ := id hT
    refine ⟨_, (pss_one (ps_ret (pe_f (ok_without_file T) (g_without_file T) (hr.mono (by decide)) (pa_cons (pv 1) (pa_cons (pe_fld (pv 0) rfl) pa_nil))))), ?_⟩
    cases p with
    | hunk _ _ _ _ => cases hk
    | swap _ _ _ => cases hk
    | add _ => cases hk
    | remove f =>
      obtain ⟨hf, rfl⟩ := (applied_remove_iff _ _ _).mp hu
      exact ⟨_, rfl, _, rfl, x, _, dx, _, _, rfl, hx, c_Removed T, n_Removed_file T, l_Added_file, _, f, m, t, rfl, ht, by rw [hf]; rfl, hT, fun r H' s' h' => q _ _ s' h'⟩
    | move _ _ => cases hk
theorem ok_Moved_applied (T : Tx K mg) : Ok K mg 3 ("Moved", some "applied") ["self", "tree"] (spApplied K 4) := by
  refine mk_ok T e_Moved_applied rfl rfl sc_Moved_applied (fun _ _ _ _ _ _ us hl => match us, hl with | [_, _], _ => rfl) (fun vs H Q E h => ?_) (fun P w base f cdv A outer s H vs Q E hr h => ?_)
  · obtain ⟨v, p, w2, t, m, u, rfl, _⟩ := h; rfl
  · obtain ⟨v, p, w2, t, m, u, rfl, ⟨hw, x, dx, rfl, hx⟩, hk, ht, hm, hT, hu, q⟩ := h
    obtain ⟨d, kvs, rfl, hd, hp, hv⟩ := id hT
    refine ⟨_, (pss_one (ps_ret (pe_f (ok_with_file T) (g_with_file T) (hr.mono (by decide)) (pa_cons (pe_f (ok_without_file T) (g_without_file T) (hr.mono (by decide)) (pa_cons (pv 1) (pa_cons (pe_fld (pv 0) rfl) pa_nil))) (pa_cons (pe_fld (pv 0) rfl) (pa_cons (pe_dget (hu_of hr) (pv 1) (pe_fld (pv 0) rfl) (fun _ _ => rfl)) pa_nil)))))), ?_⟩
    cases p with
    | hunk _ _ _ _ => cases hk
    | swap _ _ _ => cases hk
    | add _ => cases hk
    | remove _ => cases hk
    | move f g =>
      obtain ⟨c, hf, hg, rfl⟩ := (applied_move_iff _ _ _ _).mp hu
      obtain ⟨pc, h1, h2⟩ := tree_get hv hf
      refine ⟨_, rfl, _, rfl, x, _, dx, _, _, rfl, hx, c_Moved T, n_Moved_old_name T, l_Moved_old_name, _, f, m, t, rfl, ht, by rw [hf]; rfl, hT, fun r1 H1 s1 g1 => ?_⟩
      refine ⟨_, rfl, x, _, dx, _, _, rfl, (s1 _ _ hx), c_Moved T, n_Moved_new_name T, l_Moved_new_name, _, rfl, _, rfl, x, _, dx, _, _, rfl, (s1 _ _ hx), c_Moved T, n_Moved_old_name T, l_Moved_old_name, d, _, rfl, get_at (s1 _ _ hd) h1, _, _, g, m, _, c, rfl, ht.drop, g1, ⟨pc, rfl, s1 _ _ h2⟩, fun r H' s' h' => q _ _ (s1.trans s') h'⟩
end
end Rw
end
section
set_option Elab.async false
set_option linter.all false
set_option maxRecDepth 100000
set_option maxHeartbeats 4000000
namespace Rw
open PySem PySem.Spec PyProof.Rows L2
open VapatBase (fileIn putFile dropFile namesOf flatStep inFile swapAll)
section
variable {K : PySem.W.Frag} {mg : Str → Option Value}
/-! ### steps read -/
def spOf (K : PySem.W.Frag) (g : List Int → Option PStep) : Sp := fun vs H Q _ => ∃ (a : Addr) (ns : List Int), vs = [.ref a] ∧ SqL K H a (ns.map V.int) ∧ ns.length < sizeLine ∧ ∀ r H', Same H H' → OptV (StepV K H') r (g ns) → Q r H'
theorem isN_no {r : V} {p : Addr} (e : r = .ref p) (c : decide (r = V.non) = true) : False := by
  have := of_decide_eq_true c
  rw [e] at this
  cases this
theorem name_of {z : Int} {b : Bool} (h : (decide (0 ≤ z) && decide (z ≤ 9)) = b) : b = decide (((0 : Nat) : Int) ≤ z ∧ z ≤ ((9 : Nat) : Int)) := by
  rw [← h, Bool.eq_iff_iff]
  simp
theorem nb {b : Bool} (c : (!b) = true) : b = false := by cases b <;> simp at c ⊢
theorem nb2 {b : Bool} (c : ¬ (!b) = true) : b = true := by cases b <;> simp at c ⊢
theorem nm_no {z : Int} (c : (decide (0 ≤ z) && decide (z ≤ 9)) = false) : ¬ (((0 : Nat) : Int) ≤ z ∧ z ≤ ((9 : Nat) : Int)) := by
  intro k
  rw [decide_eq_true (show (0 : Int) ≤ z from k.1), decide_eq_true (show z ≤ (9 : Int) from k.2)] at c
  cases c
theorem nm_yes {z : Int} (c : (decide (0 ≤ z) && decide (z ≤ 9)) = true) : ((0 : Nat) : Int) ≤ z ∧ z ≤ ((9 : Nat) : Int) := by
  rw [Bool.and_eq_true] at c
  exact ⟨of_decide_eq_true c.1, of_decide_eq_true c.2⟩
theorem get_ {ns : List Int} {i : Nat} (h : i < ns.length) : ∃ z, ns[i]? = some z := ⟨_, List.getElem?_eq_getElem h⟩
theorem ok_hunk_of (T : Tx K mg) : Ok K mg 3 ("hunk_of", none) ["numbers"] (spOf K hunkOf) := by
  refine mk_ok T e_hunk_of rfl rfl sc_hunk_of (fun _ _ _ _ _ _ us hl => match us, hl with | [_], _ => rfl) (fun vs H Q E h => ?_) (fun P w base f cdv A outer s H vs Q E hr h => ?_)
  · obtain ⟨a, ns, rfl, _⟩ := h; rfl
  · obtain ⟨a, ns, rfl, hS, hlen, q⟩ := h
    refine ⟨_, (pss_cons (ps_if (PW.pt (pw_or (pt_cmpR op_lt (pe_callB call_len_seq (by rfl) (z_len T) (by decide +kernel) (pa_cons (pv 0) pa_nil)) pe_int (nomark _)) (pw_or (pt_not (pt_val (pe_f (ok_is_name T) (g_is_name T) (hr.mono (by decide)) (pa_cons (pe_ix ix_list (pv 0) pe_int (fun _ _ => rfl)) pa_nil)))) (pw_or1 (pt_not (pt_chain op_le op_le pe_int (pe_ix ix_list (pv 0) pe_int (fun _ _ => rfl)) (pe_gint (i_TOP_PLACE T)))))))) (pss_one (ps_ret pe_non)) pss_nil) (pss_cons (ps_set (i := 1) sc_hunk_of.nd rfl (Or.inl rfl) (pe_f (ok_tokens_at T) (g_tokens_at T) (hr.mono (by decide)) (pa_cons (pv 0) (pa_cons pe_int (pa_cons (pe_gint (i_MOST_TOKENS_steps T)) pa_nil))))) (pss_cons (ps_if (pt_cmpR op_isN (pv 1) pe_non (nomark _)) (pss_one (ps_ret pe_non)) pss_nil) (pss_cons (ps_set (i := 2) sc_hunk_of.nd rfl (Or.inl rfl) (pe_f (ok_tokens_at T) (g_tokens_at T) (hr.mono (by decide)) (pa_cons (pv 0) (pa_cons (pe_op op_add pe_int (pe_callB call_len_seq (by rfl) (z_len T) (by decide +kernel) (pa_cons (pv 1) pa_nil))) (pa_cons (pe_gint (i_MOST_TOKENS_steps T)) pa_nil))))) (pss_cons (ps_if (PW.pt (pw_or (pt_cmpR op_isN (pv 2) pe_non (nomark _)) (pw_or1 (pt_cmpR op_ne (pe_callB call_len_seq (by rfl) (z_len T) (by decide +kernel) (pa_cons (pv 0) pa_nil)) (pe_op op_add (pe_op op_add pe_int (pe_callB call_len_seq (by rfl) (z_len T) (by decide +kernel) (pa_cons (pv 1) pa_nil))) (pe_callB call_len_seq (by rfl) (z_len T) (by decide +kernel) (pa_cons (pv 2) pa_nil))) (nomark _))))) (pss_one (ps_ret pe_non)) pss_nil) (pss_cons (ps_if (PW.pt (pw_and (pt_cmpR op_eq (pe_callB call_len_seq (by rfl) (z_len T) (by decide +kernel) (pa_cons (pv 1) pa_nil)) pe_int (nomark _)) (pw_and1 (pt_cmpR op_eq (pe_callB call_len_seq (by rfl) (z_len T) (by decide +kernel) (pa_cons (pv 2) pa_nil)) pe_int (nomark _))))) (pss_one (ps_ret pe_non)) pss_nil) (pss_one (ps_ret (pe_mk (ok_Hunk_init T) (k_Hunk T) (g_Hunk T) (hr.mono (by decide)) (pa_cons (pe_ix ix_list (pv 0) pe_int (fun _ _ => rfl)) (pa_cons (pe_ix ix_list (pv 0) pe_int (fun _ _ => rfl)) (pa_cons (pv 1) (pa_cons (pv 2) pa_nil))))))))))))), ?_⟩
    have no : hunkOf ns = none → ∀ H', Same H H' → Q .non H' := fun e H' s' => q _ _ s' (by rw [e]; rfl)
    refine ⟨_, rfl, a, _, rfl, .inl hS, _, _, rfl, rfl, _, rfl, ?_⟩
    refine ite2 (fun c => no (hunkOf_2 (natAt_out ?_)) _ (Same.refl _)) (fun c => ?_)
    · have := of_decide_eq_true c
      rw [List.length_map] at this
      omega
    have h3 : 3 ≤ ns.length := by
      have := of_decide_eq_false (Bool.eq_false_iff.mpr c)
      rw [List.length_map] at this
      omega
    obtain ⟨z1, hz1⟩ := get_ (ns := ns) (i := 1) (by omega)
    obtain ⟨z2, hz2⟩ := get_ (ns := ns) (i := 2) (by omega)
    refine ⟨_, rfl, a, _, _, _, rfl, rfl, hS, atI_nat (V_at hz1), z1, rfl, _, rfl, ?_⟩
    refine ite2 (fun c1 => no (hunkOf_1 (natAt_no hz1 (nm_no (nb c1)))) _ (Same.refl _)) (fun c1 => ?_)
    have k1 := nm_yes (nb2 c1)
    refine ⟨_, rfl, a, _, _, _, rfl, rfl, hS, atI_nat (V_at hz2), _, _, rfl, rfl, _, rfl, ?_⟩
    refine ite2 (fun c2 => ?_) (fun c2 => ⟨_, rfl, no (hunkOf_2 (natAt_no hz2 fun k => c2 (decide_eq_true k.1))) _ (Same.refl _)⟩)
    refine ⟨_, _, rfl, rfl, _, rfl, ?_⟩
    refine ite2 (fun c3 => no (hunkOf_2 (natAt_no hz2 fun k => ?_)) _ (Same.refl _)) (fun c3 => ?_)
    · have := of_decide_eq_false (nb c3)
      have := k.2
      omega
    have k2 : ((0 : Nat) : Int) ≤ z2 ∧ z2 ≤ ((1000 : Nat) : Int) := ⟨of_decide_eq_true c2, of_decide_eq_true (nb2 c3)⟩
    have hgo := hunkOf_go (natAt_yes hz1 k1) (natAt_yes hz2 k2)
    refine ⟨_, rfl, a, ns, 3, 8, rfl, hS, hlen, fun r1 H1 s1 g1 => ?_⟩
    refine ⟨_, rfl, rfl, _, rfl, ?_⟩
    cases e3 : tokensAt ns 3 8 with
    | none =>
      rw [e3] at g1 hgo
      cases (show r1 = .non from g1)
      exact ite2 (fun _ => no hgo _ s1) (fun c => absurd (decide_eq_true rfl) c)
    | some o =>
      rw [e3] at g1 hgo
      obtain ⟨p1, rfl, g1⟩ := g1
      refine ite2 (fun c => (isN_no rfl c).elim) (fun _ => ?_)
      have lo := tokensAt_len e3
      have lt : ∀ l : List Nat, (toks l).length = l.length := fun l => List.length_map _
      refine ⟨_, rfl, _, rfl, p1, _, rfl, .inr (SqT.of g1), _, _, rfl, rfl, a, ns, 4 + o.length, 8, by rw [lt]; simp, s1.seq hS, hlen, fun r2 H2 s2 g2 => ?_⟩
      have s12 := s1.trans s2
      refine ⟨_, rfl, rfl, _, rfl, ?_⟩
      rw [Option.bind_some] at hgo
      cases e4 : tokensAt ns (4 + o.length) 8 with
      | none =>
        rw [e4] at g2 hgo
        cases (show r2 = .non from g2)
        exact ite2 (fun _ => no hgo _ s12) (fun c => absurd (decide_eq_true rfl) c)
      | some n =>
        rw [e4] at g2 hgo
        obtain ⟨p2, rfl, g2⟩ := g2
        rw [Option.bind_some] at hgo
        have ln := tokensAt_len e4
        refine ite2 (fun c => (isN_no rfl c).elim) (fun _ => ?_)
        refine ⟨_, rfl, a, _, rfl, .inl (s12.seq hS), _, rfl, p1, _, rfl, .inr (SqT.of (s2 _ _ g1)), _, _, rfl, rfl, _, rfl, p2, _, rfl, .inr (SqT.of g2), _, _, rfl, rfl, rfl, _, rfl, ?_⟩
        have eL : decide (V.int (((ns.map V.int).length : Nat) : Int) = V.int (5 + ((toks o).length : Int) + ((toks n).length : Int))) = decide (ns.length = 5 + o.length + n.length) := by
          rw [dec_int, lt, lt, List.length_map, Bool.eq_iff_iff]
          simp
          omega
        rw [eL]
        refine ite2 (fun c => no ?_ _ s12) (fun c => ?_)
        · rw [hgo, if_neg]
          intro k
          rw [decide_eq_true k.1] at c
          cases c
        have hL : ns.length = 5 + o.length + n.length := of_decide_eq_true (nb2 c)
        refine ⟨_, rfl, p1, _, rfl, .inr (SqT.of (s2 _ _ g1)), rfl, _, rfl, ?_⟩
        have eO : decide (V.int (((toks o).length : Nat) : Int) = V.int 0) = decide (o.length = 0) := by
          rw [dec_int, lt, Bool.eq_iff_iff]
          simp
        rw [eO]
        have done : ¬ (o.length = 0 ∧ n.length = 0) → Rw.OptV (StepV K H2) (.non) none → ∀ r H3, Same H2 H3 → (∃ dx, H3 r = some (.ins (He.ga K "Hunk") dx [("file", .int z1), ("place", .int z2), ("old", .ref p1), ("new", .ref p2)])) → Q (.ref r) H3 := by
          intro hb _ r H3 s3 ⟨dx, h3⟩
          refine q _ _ (s12.trans s3) ?_
          rw [hgo, if_pos ⟨hL, hb⟩]
          refine ⟨⟨by have := k1.2; omega, lo.1, ln.1⟩, r, dx, rfl, p1, p2, ?_, s3 _ _ (s2 _ _ g1), s3 _ _ g2⟩
          rw [h3, Int.toNat_of_nonneg k1.1, Int.toNat_of_nonneg k2.1]
        have ret : ¬ (o.length = 0 ∧ n.length = 0) → ∀ x dx, H2 x = none → H2 dx = none → dx ≠ x → spInit (He.ga K "Hunk") fHunk (.ref x :: ([V.int z1, V.int z2, V.ref p1, V.ref p2] ++ [])) (upd (upd H2 dx (.own x)) x (.ins (He.ga K "Hunk") dx [])) (fun v H3 => v = .non ∧ Q (.ref x) H3) E0 :=
          fun hb => make_read rfl fun x dx H3 s3 _ hx => done hb rfl x H3 s3 ⟨dx, hx⟩
        refine ite2 (fun c1 => ?_) (fun c1 => ?_)
        · have o0 : o.length = 0 := of_decide_eq_true c1
          refine ⟨_, rfl, p2, _, rfl, .inr (SqT.of g2), rfl, _, rfl, ?_⟩
          have eN : decide (V.int (((toks n).length : Nat) : Int) = V.int 0) = decide (n.length = 0) := by
            rw [dec_int, lt, Bool.eq_iff_iff]
            simp
          rw [eN]
          refine ite2 (fun c2 => no ?_ _ s12) (fun c2 => ?_)
          · rw [hgo, if_neg]
            exact fun k => k.2 ⟨o0, of_decide_eq_true c2⟩
          · have hb : ¬ (o.length = 0 ∧ n.length = 0) := fun k => c2 (decide_eq_true k.2)
            exact ⟨_, rfl, a, _, _, _, rfl, rfl, s12.seq hS, atI_nat (V_at hz1), _, rfl, a, _, _, _, rfl, rfl, s12.seq hS, atI_nat (V_at hz2), _, rfl, _, rfl, ret hb⟩
        · have hb : ¬ (o.length = 0 ∧ n.length = 0) := fun k => c1 (decide_eq_true k.1)
          exact ⟨_, rfl, a, _, _, _, rfl, rfl, s12.seq hS, atI_nat (V_at hz1), _, rfl, a, _, _, _, rfl, rfl, s12.seq hS, atI_nat (V_at hz2), _, rfl, _, rfl, ret hb⟩
theorem ints_from (ns : List Int) (i : Int) (a : Nat) (h1 : i = (a : Int)) : cutV (ns.map V.int) (some i) none = (ns.drop a).map V.int := by
  subst h1
  unfold cutV
  rw [HT.sIx_nat, HT.sIx_none, List.length_map, List.map_drop]
  rcases Nat.le_total a ns.length with h | h
  · rw [Nat.min_eq_left h]
    apply List.take_of_length_le
    rw [List.length_drop, List.length_map]
    omega
  · rw [Nat.min_eq_right h, List.drop_eq_nil_of_le (by simp), List.drop_eq_nil_of_le (by simp; exact h)]
    simp
theorem eq_int (x y : Int) : decide (V.int x = V.int y) = decide (x = y) := by
  rw [dec_int, Bool.eq_iff_iff]
  simp
theorem ok_swap_of (T : Tx K mg) : Ok K mg 3 ("swap_of", none) ["numbers"] (spOf K swapOf) := by
  refine mk_ok T e_swap_of rfl rfl sc_swap_of (fun _ _ _ _ _ _ us hl => match us, hl with | [_], _ => rfl) (fun vs H Q E h => ?_) (fun P w base f cdv A outer s H vs Q E hr h => ?_)
  · obtain ⟨a, ns, rfl, _⟩ := h; rfl
  · obtain ⟨a, ns, rfl, hS, hlen, q⟩ := h
    refine ⟨_, (pss_cons (ps_if (PW.pt (pw_or (pt_cmpR op_ne (pe_callB call_len_seq (by rfl) (z_len T) (by decide +kernel) (pa_cons (pv 0) pa_nil)) pe_int (nomark _)) (pw_or (pt_not (pt_val (pe_f (ok_is_name T) (g_is_name T) (hr.mono (by decide)) (pa_cons (pe_ix ix_list (pv 0) pe_int (fun _ _ => rfl)) pa_nil)))) (pw_or1 (pt_not (pt_val (pe_f (ok_are_tokens T) (g_are_tokens T) (hr.mono (by decide)) (pa_cons (pe_slice sl_list (pv 0) (po_some pe_int) po_none) pa_nil)))))))) (pss_one (ps_ret pe_non)) pss_nil) (pss_cons (ps_if (pt_cmpR op_eq (pe_ix ix_list (pv 0) pe_int (fun _ _ => rfl)) (pe_ix ix_list (pv 0) pe_int (fun _ _ => rfl)) (nomark _)) (pss_one (ps_ret pe_non)) pss_nil) (pss_one (ps_ret (pe_mk (ok_Swap_init T) (k_Swap T) (g_Swap T) (hr.mono (by decide)) (pa_cons (pe_ix ix_list (pv 0) pe_int (fun _ _ => rfl)) (pa_cons (pe_ix ix_list (pv 0) pe_int (fun _ _ => rfl)) (pa_cons (pe_ix ix_list (pv 0) pe_int (fun _ _ => rfl)) pa_nil)))))))), ?_⟩
    have no : swapOf ns = none → ∀ H', Same H H' → Q .non H' := fun e H' s' => q _ _ s' (by rw [e]; rfl)
    have bad : ns.length ≠ 4 → swapOf ns = none := fun hl => by
      unfold swapOf
      cases natAt ns 1 0 9 with
      | none => rfl
      | some f => cases natAt ns 2 0 99 with
        | none => rfl
        | some x => cases natAt ns 3 0 99 with
          | none => rfl
          | some y => exact if_neg fun k => hl k.1
    refine ⟨_, rfl, a, _, rfl, .inl hS, rfl, _, rfl, ?_⟩
    rw [eq_int, List.length_map]
    refine ite2 (fun c => no (bad fun k => ?_) _ (Same.refl _)) (fun c => ?_)
    · rw [k] at c
      cases c
    have h4 : ns.length = 4 := by
      have := of_decide_eq_true (nb2 c)
      omega
    obtain ⟨z1, hz1⟩ := get_ (ns := ns) (i := 1) (by omega)
    obtain ⟨z2, hz2⟩ := get_ (ns := ns) (i := 2) (by omega)
    obtain ⟨z3, hz3⟩ := get_ (ns := ns) (i := 3) (by omega)
    have hd : ns.drop 2 = [z2, z3] := by rw [drop_at hz2, drop_at hz3, List.drop_eq_nil_of_le (by omega)]
    refine ⟨_, rfl, a, _, _, _, rfl, rfl, hS, atI_nat (V_at hz1), z1, rfl, _, rfl, ?_⟩
    refine ite2 (fun c1 => no ?_ _ (Same.refl _)) (fun c1 => ?_)
    · rw [swapOf, natAt_no hz1 (nm_no (nb c1))]; rfl
    have k1 := nm_yes (nb2 c1)
    refine ⟨_, rfl, ?_⟩
    dsimp only [tNoPart]
    refine ⟨_, rfl, a, _, rfl, hS, fun p hp => ?_⟩
    rw [show cutV (ns.map V.int) (some 2) none = (ns.drop 2).map V.int from ints_from ns 2 2 rfl, hd]
    have s1 := same_new (o := .lst ([z2, z3].map V.int)) hp
    refine ⟨p, [z2, z3], rfl, .inl (SqL.of upd_same), by show 2 < sizeLine; decide, fun H2 s2 => ⟨_, rfl, ?_⟩⟩
    have s12 := s1.trans s2
    have ea : [z2, z3].all tokB = (tokB z2 && tokB z3) := by simp
    rw [ea]
    have go : swapOf ns = (natAt ns 2 0 99).bind fun x => (natAt ns 3 0 99).bind fun y => if ns.length = 4 ∧ x ≠ y then some (.swap z1.toNat x y) else none := by rw [swapOf, natAt_yes hz1 k1]; rfl
    have tb : ∀ {z : Int}, tokB z = true ↔ ((0 : Nat) : Int) ≤ z ∧ z ≤ ((99 : Nat) : Int) := fun {z} => by simp [tokB]
    refine ite2 (fun c2 => no ?_ _ s12) (fun c2 => ?_)
    · rw [go]
      by_cases k2 : tokB z2 = true
      · by_cases k3 : tokB z3 = true
        · rw [k2, k3] at c2; cases c2
        · rw [natAt_yes hz2 (tb.mp k2), natAt_no hz3 (fun k => k3 (tb.mpr k))]; rfl
      · rw [natAt_no hz2 (fun k => k2 (tb.mpr k))]; rfl
    have k23 := nb2 c2
    rw [Bool.and_eq_true] at k23
    have k2 := tb.mp k23.1
    have k3 := tb.mp k23.2
    rw [natAt_yes hz2 k2, Option.bind_some, natAt_yes hz3 k3, Option.bind_some] at go
    refine ⟨_, rfl, a, _, _, _, rfl, rfl, s12.seq hS, atI_nat (V_at hz2), _, rfl, a, _, _, _, rfl, rfl, s12.seq hS, atI_nat (V_at hz3), rfl, _, rfl, ?_⟩
    rw [eq_int]
    refine ite2 (fun c3 => no ?_ _ s12) (fun c3 => ?_)
    · rw [go, if_neg]
      exact fun k => k.2 (by rw [of_decide_eq_true c3])
    refine ⟨_, rfl, a, _, _, _, rfl, rfl, s12.seq hS, atI_nat (V_at hz1), _, rfl, a, _, _, _, rfl, rfl, s12.seq hS, atI_nat (V_at hz2), _, rfl, a, _, _, _, rfl, rfl, s12.seq hS, atI_nat (V_at hz3), make_read rfl fun x dx H3 s3 _ hx => q _ _ (s12.trans s3) ?_⟩
    rw [go, if_pos ⟨h4, fun e => c3 (decide_eq_true (by omega))⟩]
    refine ⟨show z1.toNat < 10 by have := k1.2; omega, x, dx, rfl, ?_⟩
    show H3 x = _
    rw [hx, Int.toNat_of_nonneg k1.1, Int.toNat_of_nonneg k2.1, Int.toNat_of_nonneg k3.1]
    rfl
theorem ok_added_or_removed_of (T : Tx K mg) : Ok K mg 3 ("added_or_removed_of", none) ["numbers"] (fun vs H Q _ => ∃ (a : Addr) (ns : List Int) (z : Int), vs = [.ref a] ∧ SqL K H a (ns.map V.int) ∧ ns.length < sizeLine ∧ ns[0]? = some z ∧ ∀ r H', Same H H' → OptV (StepV K H') r (if z = 2 then addOf ns else removeOf ns) → Q r H') := by
  refine mk_ok T e_added_or_removed_of rfl rfl sc_added_or_removed_of (fun _ _ _ _ _ _ us hl => match us, hl with | [_], _ => rfl) (fun vs H Q E h => ?_) (fun P w base f cdv A outer s H vs Q E hr h => ?_)
  · obtain ⟨a, ns, z, rfl, _⟩ := h; rfl
  · obtain ⟨a, ns, z, rfl, hS, hlen, hz0, q⟩ := h
    refine ⟨_, (pss_cons (ps_if (PW.pt (pw_or (pt_cmpR op_ne (pe_callB call_len_seq (by rfl) (z_len T) (by decide +kernel) (pa_cons (pv 0) pa_nil)) pe_int (nomark _)) (pw_or1 (pt_not (pt_val (pe_f (ok_is_name T) (g_is_name T) (hr.mono (by decide)) (pa_cons (pe_ix ix_list (pv 0) pe_int (fun _ _ => rfl)) pa_nil))))))) (pss_one (ps_ret pe_non)) pss_nil) (pss_cons (ps_if (pt_cmpR op_eq (pe_ix ix_list (pv 0) pe_int (fun _ _ => rfl)) (pe_gint (i_ADDED T)) (nomark _)) (pss_one (ps_ret (pe_mk (ok_Added_init T) (k_Added T) (g_Added T) (hr.mono (by decide)) (pa_cons (pe_ix ix_list (pv 0) pe_int (fun _ _ => rfl)) pa_nil)))) pss_nil) (pss_one (ps_ret (pe_mk (ok_Removed_init T) (k_Removed T) (g_Removed T) (hr.mono (by decide)) (pa_cons (pe_ix ix_list (pv 0) pe_int (fun _ _ => rfl)) pa_nil)))))), ?_⟩
    have no : addOf ns = none → removeOf ns = none → ∀ H', Same H H' → Q .non H' := fun e1 e2 H' s' => q _ _ s' (by rw [e1, e2, ite_self]; rfl)
    refine ⟨_, rfl, a, _, rfl, .inl hS, rfl, _, rfl, ?_⟩
    rw [eq_int, List.length_map]
    refine ite2 (fun c => ?_) (fun c => ?_)
    · have hl : ¬ ns.length = 2 := fun k => by rw [k] at c; cases c
      refine no ?_ ?_ _ (Same.refl _)
      · unfold addOf
        cases natAt ns 1 0 9 with
        | none => rfl
        | some f => exact if_neg hl
      · unfold removeOf
        cases natAt ns 1 0 9 with
        | none => rfl
        | some f => exact if_neg hl
    have h2 : ns.length = 2 := by
      have := of_decide_eq_true (nb2 c)
      omega
    obtain ⟨z1, hz1⟩ := get_ (ns := ns) (i := 1) (by omega)
    refine ⟨_, rfl, a, _, _, _, rfl, rfl, hS, atI_nat (V_at hz1), z1, rfl, _, rfl, ?_⟩
    refine ite2 (fun c1 => no ?_ ?_ _ (Same.refl _)) (fun c1 => ?_)
    · rw [addOf, natAt_no hz1 (nm_no (nb c1))]; rfl
    · rw [removeOf, natAt_no hz1 (nm_no (nb c1))]; rfl
    have k1 := nm_yes (nb2 c1)
    have g1 : addOf ns = some (.add z1.toNat) := by rw [addOf, natAt_yes hz1 k1, Option.bind_some, if_pos h2]
    have g2 : removeOf ns = some (.remove z1.toNat) := by rw [removeOf, natAt_yes hz1 k1, Option.bind_some, if_pos h2]
    rw [g1, g2] at q
    refine ⟨_, rfl, a, _, _, _, rfl, rfl, hS, atI_nat (V_at hz0), rfl, _, rfl, ?_⟩
    rw [eq_int]
    have lt : z1.toNat < 10 := by have := k1.2; omega
    refine ite2 (fun c2 => ?_) (fun c2 => ?_)
    · rw [if_pos (of_decide_eq_true c2)] at q
      refine ⟨_, rfl, a, _, _, _, rfl, rfl, hS, atI_nat (V_at hz1), make_read rfl fun x dx H3 s3 _ hx => q _ _ s3 ⟨lt, x, dx, rfl, ?_⟩⟩
      show H3 x = _
      rw [hx, Int.toNat_of_nonneg k1.1]
      rfl
    · rw [if_neg (fun k => c2 (decide_eq_true k))] at q
      refine ⟨_, rfl, a, _, _, _, rfl, rfl, hS, atI_nat (V_at hz1), make_read rfl fun x dx H3 s3 _ hx => q _ _ s3 ⟨lt, x, dx, rfl, ?_⟩⟩
      show H3 x = _
      rw [hx, Int.toNat_of_nonneg k1.1]
      rfl
theorem ok_moved_of (T : Tx K mg) : Ok K mg 3 ("moved_of", none) ["numbers"] (spOf K moveOf) := by
  refine mk_ok T e_moved_of rfl rfl sc_moved_of (fun _ _ _ _ _ _ us hl => match us, hl with | [_], _ => rfl) (fun vs H Q E h => ?_) (fun P w base f cdv A outer s H vs Q E hr h => ?_)
  · obtain ⟨a, ns, rfl, _⟩ := h; rfl
  · obtain ⟨a, ns, rfl, hS, hlen, q⟩ := h
    refine ⟨_, (pss_cons (ps_if (PW.pt (pw_or (pt_cmpR op_ne (pe_callB call_len_seq (by rfl) (z_len T) (by decide +kernel) (pa_cons (pv 0) pa_nil)) pe_int (nomark _)) (pw_or (pt_not (pt_val (pe_f (ok_is_name T) (g_is_name T) (hr.mono (by decide)) (pa_cons (pe_ix ix_list (pv 0) pe_int (fun _ _ => rfl)) pa_nil)))) (pw_or1 (pt_not (pt_val (pe_f (ok_is_name T) (g_is_name T) (hr.mono (by decide)) (pa_cons (pe_ix ix_list (pv 0) pe_int (fun _ _ => rfl)) pa_nil)))))))) (pss_one (ps_ret pe_non)) pss_nil) (pss_cons (ps_if (pt_cmpR op_eq (pe_ix ix_list (pv 0) pe_int (fun _ _ => rfl)) (pe_ix ix_list (pv 0) pe_int (fun _ _ => rfl)) (nomark _)) (pss_one (ps_ret pe_non)) pss_nil) (pss_one (ps_ret (pe_mk (ok_Moved_init T) (k_Moved T) (g_Moved T) (hr.mono (by decide)) (pa_cons (pe_ix ix_list (pv 0) pe_int (fun _ _ => rfl)) (pa_cons (pe_ix ix_list (pv 0) pe_int (fun _ _ => rfl)) pa_nil))))))), ?_⟩
    have no : moveOf ns = none → ∀ H', Same H H' → Q .non H' := fun e H' s' => q _ _ s' (by rw [e]; rfl)
    refine ⟨_, rfl, a, _, rfl, .inl hS, rfl, _, rfl, ?_⟩
    rw [eq_int, List.length_map]
    refine ite2 (fun c => no ?_ _ (Same.refl _)) (fun c => ?_)
    · have hl : ¬ ns.length = 3 := fun k => by rw [k] at c; cases c
      unfold moveOf
      cases natAt ns 1 0 9 with
      | none => rfl
      | some f => cases natAt ns 2 0 9 with
        | none => rfl
        | some g => exact if_neg fun k => hl k.1
    have h3 : ns.length = 3 := by
      have := of_decide_eq_true (nb2 c)
      omega
    obtain ⟨z1, hz1⟩ := get_ (ns := ns) (i := 1) (by omega)
    obtain ⟨z2, hz2⟩ := get_ (ns := ns) (i := 2) (by omega)
    refine ⟨_, rfl, a, _, _, _, rfl, rfl, hS, atI_nat (V_at hz1), z1, rfl, _, rfl, ?_⟩
    refine ite2 (fun c1 => no ?_ _ (Same.refl _)) (fun c1 => ?_)
    · rw [moveOf, natAt_no hz1 (nm_no (nb c1))]; rfl
    have k1 := nm_yes (nb2 c1)
    refine ⟨_, rfl, a, _, _, _, rfl, rfl, hS, atI_nat (V_at hz2), z2, rfl, _, rfl, ?_⟩
    refine ite2 (fun c2 => no ?_ _ (Same.refl _)) (fun c2 => ?_)
    · rw [moveOf, natAt_yes hz1 k1, Option.bind_some, natAt_no hz2 (nm_no (nb c2))]; rfl
    have k2 := nm_yes (nb2 c2)
    have go : moveOf ns = if ns.length = 3 ∧ z1.toNat ≠ z2.toNat then some (.move z1.toNat z2.toNat) else none := by rw [moveOf, natAt_yes hz1 k1, Option.bind_some, natAt_yes hz2 k2]; rfl
    refine ⟨_, rfl, a, _, _, _, rfl, rfl, hS, atI_nat (V_at hz1), _, rfl, a, _, _, _, rfl, rfl, hS, atI_nat (V_at hz2), rfl, _, rfl, ?_⟩
    rw [eq_int]
    refine ite2 (fun c3 => no ?_ _ (Same.refl _)) (fun c3 => ?_)
    · rw [go, if_neg]
      exact fun k => k.2 (by rw [of_decide_eq_true c3])
    refine ⟨_, rfl, a, _, _, _, rfl, rfl, hS, atI_nat (V_at hz1), _, rfl, a, _, _, _, rfl, rfl, hS, atI_nat (V_at hz2), make_read rfl fun x dx H3 s3 _ hx => q _ _ s3 ?_⟩
    have n1 : ((0 : Nat) : Int) ≤ z1 := k1.1
    have n2 : ((0 : Nat) : Int) ≤ z2 := k2.1
    rw [go, if_pos ⟨h3, fun e => c3 (decide_eq_true (by omega))⟩]
    refine ⟨⟨by have := k1.2; omega, by have := k2.2; omega⟩, x, dx, rfl, ?_⟩
    show H3 x = _
    rw [hx, Int.toNat_of_nonneg k1.1, Int.toNat_of_nonneg k2.1]
    rfl
theorem ok_step_of (T : Tx K mg) : Ok K mg 4 ("step_of", none) ["numbers"] (spOf K (VapatBase.whole VapatBase.readStep)) := by
  refine mk_ok T e_step_of rfl rfl sc_step_of (fun _ _ _ _ _ _ us hl => match us, hl with | [_], _ => rfl) (fun vs H Q E h => ?_) (fun P w base f cdv A outer s H vs Q E hr h => ?_)
  · obtain ⟨a, ns, rfl, _⟩ := h; rfl
  · obtain ⟨a, ns, rfl, hS, hlen, q⟩ := h
    refine ⟨_, (pss_cons (ps_if (pt_cmpR op_eq (pe_callB call_len_seq (by rfl) (z_len T) (by decide +kernel) (pa_cons (pv 0) pa_nil)) pe_int (nomark _)) (pss_one (ps_ret pe_non)) pss_nil) (pss_cons (ps_set (i := 1) sc_step_of.nd rfl (Or.inl rfl) (pe_ix ix_list (pv 0) pe_int (fun _ _ => rfl))) (pss_cons (ps_if (pt_cmpR op_eq (pv 1) (pe_gint (i_HUNK T)) (nomark _)) (pss_one (ps_ret (pe_f (ok_hunk_of T) (g_hunk_of T) (hr.mono (by decide)) (pa_cons (pv 0) pa_nil)))) pss_nil) (pss_cons (ps_if (pt_cmpR op_eq (pv 1) (pe_gint (i_SWAP T)) (nomark _)) (pss_one (ps_ret (pe_f (ok_swap_of T) (g_swap_of T) (hr.mono (by decide)) (pa_cons (pv 0) pa_nil)))) pss_nil) (pss_cons (ps_if (PW.pt (pw_or (pt_cmpR op_eq (pv 1) (pe_gint (i_ADDED T)) (nomark _)) (pw_or1 (pt_cmpR op_eq (pv 1) (pe_gint (i_REMOVED T)) (nomark _))))) (pss_one (ps_ret (pe_f (ok_added_or_removed_of T) (g_added_or_removed_of T) (hr.mono (by decide)) (pa_cons (pv 0) pa_nil)))) pss_nil) (pss_cons (ps_if (pt_cmpR op_eq (pv 1) (pe_gint (i_MOVED T)) (nomark _)) (pss_one (ps_ret (pe_f (ok_moved_of T) (g_moved_of T) (hr.mono (by decide)) (pa_cons (pv 0) pa_nil)))) pss_nil) (pss_one (ps_ret pe_non)))))))), ?_⟩
    rw [whole_step] at q
    refine ⟨_, rfl, a, _, rfl, .inl hS, rfl, _, rfl, ?_⟩
    rw [eq_int, List.length_map]
    refine ite2 (fun c => ?_) (fun c => ?_)
    · have : ns = [] := List.length_eq_zero_iff.mp (by have := of_decide_eq_true c; omega)
      subst this
      exact q _ _ (Same.refl _) rfl
    have h0 : 0 < ns.length := by
      apply Nat.pos_of_ne_zero
      intro k
      exact c (decide_eq_true (by rw [k]; rfl))
    obtain ⟨z, hz⟩ := get_ h0
    have go : stepOf ns = if z = 0 then hunkOf ns else if z = 1 then swapOf ns else if z = 2 then addOf ns else if z = 3 then removeOf ns else if z = 4 then moveOf ns else none := by rw [stepOf, hz]
    rw [go] at q
    refine ⟨_, rfl, a, _, _, _, rfl, rfl, hS, atI_nat (V_at hz), ?_⟩
    refine ⟨_, rfl, rfl, _, rfl, ?_⟩
    rw [eq_int]
    refine ite2 (fun c0 => ?_) (fun c0 => ?_)
    · rw [if_pos (of_decide_eq_true c0)] at q
      exact ⟨_, rfl, a, ns, rfl, hS, hlen, q⟩
    rw [if_neg (fun k => c0 (decide_eq_true k))] at q
    refine ⟨_, rfl, rfl, _, rfl, ?_⟩
    rw [eq_int]
    refine ite2 (fun c1 => ?_) (fun c1 => ?_)
    · rw [if_pos (of_decide_eq_true c1)] at q
      exact ⟨_, rfl, a, ns, rfl, hS, hlen, q⟩
    rw [if_neg (fun k => c1 (decide_eq_true k))] at q
    refine ⟨_, rfl, rfl, _, rfl, ?_⟩
    rw [eq_int]
    refine ite2 (fun c2 => ?_) (fun c2 => ?_)
    · have z2 := of_decide_eq_true c2
      rw [if_pos z2] at q
      exact ⟨_, rfl, a, ns, z, rfl, hS, hlen, hz, by rw [if_pos z2]; exact q⟩
    rw [if_neg (fun k => c2 (decide_eq_true k))] at q
    refine ⟨_, rfl, rfl, _, rfl, ?_⟩
    rw [eq_int]
    refine ite2 (fun c3 => ?_) (fun c3 => ?_)
    · have z3 := of_decide_eq_true c3
      rw [if_pos z3] at q
      exact ⟨_, rfl, a, ns, z, rfl, hS, hlen, hz, by rw [if_neg (fun k => c2 (decide_eq_true k))]; exact q⟩
    rw [if_neg (fun k => c3 (decide_eq_true k))] at q
    refine ⟨_, rfl, rfl, _, rfl, ?_⟩
    rw [eq_int]
    refine ite2 (fun c4 => ?_) (fun c4 => ?_)
    · rw [if_pos (of_decide_eq_true c4)] at q
      exact ⟨_, rfl, a, ns, rfl, hS, hlen, q⟩
    · rw [if_neg (fun k => c4 (decide_eq_true k))] at q
      exact q _ _ (Same.refl _) rfl
end
end Rw
end
section
set_option Elab.async false
set_option linter.all false
set_option maxRecDepth 100000
set_option maxHeartbeats 4000000
namespace Rw
open PySem PySem.Spec PyProof.Rows L2
open VapatBase (fileIn putFile dropFile namesOf flatStep inFile swapAll)
/-! ### paired lists -/
theorem pr_get {α β : Type} {R : α → β → Prop} : ∀ {xs : List α} {ys : List β} {i : Nat} {x : α}, Paired R xs ys → xs[i]? = some x → ∃ y, ys[i]? = some y ∧ R x y
  | _, _, _, _, .nil, e => by simp at e
  | _, _, 0, _, .cons r _, e => by simp at e; subst e; exact ⟨_, rfl, r⟩
  | _, _, i + 1, x, .cons _ t, e => by
    obtain ⟨y, h1, h2⟩ := pr_get (i := i) (x := x) t (by simpa using e)
    exact ⟨y, by simpa using h1, h2⟩
theorem pr_app {α β : Type} {R : α → β → Prop} : ∀ {xs xs2 : List α} {ys ys2 : List β}, Paired R xs ys → Paired R xs2 ys2 → Paired R (xs ++ xs2) (ys ++ ys2)
  | _, _, _, _, .nil, h => h
  | _, _, _, _, .cons r t, h => .cons r (pr_app t h)
theorem pr_rev {α β : Type} {R : α → β → Prop} : ∀ {xs : List α} {ys : List β}, Paired R xs ys → Paired R xs.reverse ys.reverse
  | _, _, .nil => .nil
  | _, _, .cons r t => by
    rw [List.reverse_cons, List.reverse_cons]
    exact pr_app (pr_rev t) (.cons r .nil)
theorem pr_len {α β : Type} {R : α → β → Prop} {xs : List α} {ys : List β} (h : Paired R xs ys) : xs.length = ys.length := Paired.length h
theorem flat_len {p : PStep} (h : wf p) : (flatStep p).length ≤ 21 := by
  cases p with
  | hunk f a o n =>
    have := h.2.1
    have := h.2.2
    simp [flatStep, VapatBase.listed, VapatBase.ints]
    omega
  | _ => simp [flatStep]
theorem flats_len : ∀ {l : List PStep}, (∀ p ∈ l, wf p) → (l.flatMap flatStep).length ≤ 21 * l.length
  | [], _ => Nat.zero_le _
  | p :: l, h => by
    have h1 := flat_len (h p List.mem_cons_self)
    have h2 := flats_len (l := l) fun q hq => h q (List.mem_cons_of_mem _ hq)
    rw [List.flatMap_cons, List.length_append, List.length_cons]
    omega
theorem StepsV.wf_all {K : PySem.W.Frag} {H : Hp} : ∀ {vs : List V} {l : List PStep}, StepsV K H vs l → ∀ p ∈ l, wf p
  | _, _, .nil, p, hp => by cases hp
  | _, _, .cons r t, p, hp => by
    rcases List.mem_cons.mp hp with rfl | hp
    · exact r.1
    · exact StepsV.wf_all t p hp
theorem take_more {α : Type} {l : List α} {i : Nat} {x : α} (h : l[i]? = some x) : l.take (i + 1) = l.take i ++ [x] := by
  rw [List.take_add_one, h]
  rfl
section
variable {K : PySem.W.Frag} {mg : Str → Option Value}
/-- a new list of whole numbers -/
def IntsN (H0 H : Hp) (v : V) (l : List Int) : Prop := ∃ a, v = .ref a ∧ H0 a = none ∧ H a = some (.lst (l.map V.int))
def spRowTold (K : PySem.W.Frag) : Sp := fun vs H Q _ => ∃ v l, vs = [v] ∧ RowV K H v l ∧ l.length ≤ 1000 ∧ ∀ r H', Same H H' → IntsN H H' r (VapatBase.flatSteps l) → Q r H'
theorem ok_row_told (T : Tx K mg) : Ok K mg 2 ("row_told", none) ["row"] (spRowTold K) := by
  refine mk_ok T e_row_told rfl rfl sc_row_told (fun _ _ _ _ _ _ us hl => match us, hl with | [_], _ => rfl) (fun vs H Q E h => ?_) (fun P w base f cdv A outer s H vs Q E hr h => ?_)
  · obtain ⟨v, l, rfl, _⟩ := h; rfl
  · obtain ⟨v, l, rfl, ⟨a, ws, rfl, ha, hws⟩, hl, q⟩ := h
    refine ⟨_, (pss_cons (ps_set (i := 1) sc_row_told.nd rfl (Or.inl rfl) (pe_lst (pa_cons (pe_callB call_len_seq (by rfl) (z_len T) (by decide +kernel) (pa_cons (pv 0) pa_nil)) pa_nil))) (pss_cons (ps_for PassesOwn.never rfl (pi_list (pv 0)) (pg_name (i := 2) sc_row_told.nd rfl (Or.inl rfl)) (pss_one (ps_expr (pe_bm PySem.F.plainAttrs_list PySem.F.slot_list_extend PySem.F.type_list_extend mt_extend (pv 1) (pa_cons (pe_mp0 (k := 1) (pv 2) (hr.mono (by decide))) pa_nil))))) (pss_one (ps_ret (pv 1))))), ?_⟩
    have lw := pr_len hws
    refine ⟨_, rfl, a, _, rfl, .inl (SqL.of ha), by show 1 ≤ sizeLine; decide, fun p hp => ?_⟩
    have s0 := same_new (o := .lst [V.int (ws.length : Int)]) hp
    refine ⟨_, rfl, a, rfl, ⟨_, SqL.of (s0 _ _ ha)⟩, for_list (K := K) (a := a) (xs := ws) (fun i σ H' => ∃ w, σ = [some (V.ref a), some (V.ref p), w] ∧ Same H H' ∧ H' p = some (.lst ((((l.length : Nat) : Int) :: (l.take i).flatMap flatStep).map V.int)))
      ⟨none, rfl, s0, by rw [upd_same, lw]; rfl⟩ (fun i σ H' _ ⟨_, _, s', _⟩ => SqL.of (s' _ _ ha)) ?_ ?_⟩
    · rintro i x σ H' hi ⟨w, rfl, s', hp'⟩
      obtain ⟨st, hst, hx⟩ := pr_get hws hi
      refine ⟨_, rfl, .inl ⟨rfl, _, SqL.of hp'⟩, _, rfl, rd1 (any_told T) (by decide +kernel) (hx.same s') fun r H2 s2 g2 => ?_⟩
      obtain ⟨b, rfl, hb⟩ := g2
      have hp2 := s2 _ _ hp'
      have hm : ∀ z ∈ l.take i, wf z := fun z hz => hws.wf_all z (List.mem_of_mem_take hz)
      refine ⟨p, b, _, _, rfl, rfl, hp2, hb, ?_, ?_⟩
      · rw [List.length_map, List.length_map, List.length_cons]
        have h1 := flats_len hm
        have h2 := flat_len (hx.1)
        have h3 : (l.take i).length ≤ l.length := by rw [List.length_take]; omega
        exact Nat.le_trans (show _ ≤ 100000 by omega) (by decide)
      · refine ⟨some x, rfl, same_mut (s'.trans s2) hp, ?_⟩
        rw [upd_same, take_more hst, List.flatMap_append]
        simp
    · rintro σ H' ⟨w, rfl, s', hp'⟩
      refine ⟨_, rfl, q _ _ s' ⟨p, rfl, hp, ?_⟩⟩
      rw [hp', lw, List.take_length]
      rfl
def spRowTurned (K : PySem.W.Frag) : Sp := fun vs H Q _ => ∃ v l, vs = [v] ∧ RowV K H v l ∧ l.length ≤ 1000 ∧ ∀ r H', Same H H' → RowV K H' r (VapatBase.turnedAll l) → Q r H'
theorem ok_row_turned (T : Tx K mg) : Ok K mg 4 ("row_turned", none) ["row"] (spRowTurned K) := by
  refine mk_ok T e_row_turned rfl rfl sc_row_turned (fun _ _ _ _ _ _ us hl => match us, hl with | [_], _ => rfl) (fun vs H Q E h => ?_) (fun P w base f cdv A outer s H vs Q E hr h => ?_)
  · obtain ⟨v, l, rfl, _⟩ := h; rfl
  · obtain ⟨v, l, rfl, ⟨a, ws, rfl, ha, hws⟩, hl, q⟩ := h
    refine ⟨_, (pss_one (ps_ret (pe_lc (te := (tMP K mg 3 "turned" (tVar 1) tNil)) (own := [("step", 1)]) (g := gName 1) (by rfl) sc_row_turned.nd (RT.pi_revA (by rfl) (z_reversed T) (pv 0)) (blkOk_by (own := [("step", 1)]) (N := nm_row_turned) (sc := defScope s_row_turned) (by decide +kernel)) (fun _ _ _ _ _ => pg_name (i := 1) sc_row_turned.nd rfl (Or.inl rfl)) (fun _ _ _ _ _ => pts_nil) (fun _ _ _ _ _ => (pe_mp0 (k := 3) (pv 1) (hr.mono (by decide))))))), ?_⟩
    have lw := pr_len hws
    have hrev := pr_rev hws
    refine ⟨_, rfl, a, ws, rfl, .inl ⟨SqL.of ha, fun D hD => L2.lc_it L2.walk_rev (fun i Hc => ∃ acc, Hc D = some (.lst acc) ∧ Same H Hc ∧ StepsV K Hc acc ((l.reverse.take i).map VapatBase.turned))
      ⟨[], upd_same, same_new hD, .nil⟩ (fun i Hc _ ⟨_, _, s', _⟩ => SqL.of (s' _ _ ha)) ?_ ?_⟩⟩
    · rintro i x Hc Hy hi ⟨acc, hacc, s', hs⟩ ⟨rfl, hx⟩
      refine ⟨rfl, ?_⟩
      have hxr : ws.reverse[i]? = some x := by rw [List.getElem?_reverse hi]; exact hx
      obtain ⟨st, hst, hsv⟩ := pr_get hrev hxr
      refine ⟨_, rfl, rd1 (any_turned T) (by decide +kernel) (hsv.same s') fun r H2 s2 g2 => ?_⟩
      have hacc2 := s2 _ _ hacc
      refine ⟨acc, hacc2, ?_, _, upd_same, same_mut (s'.trans s2) hD, ?_⟩
      · have e := pr_len hs
        rw [List.length_map, List.length_take] at e
        rw [e]
        exact Nat.lt_of_le_of_lt (show _ ≤ 1000 by rw [List.length_reverse]; omega) (by decide)
      · rw [take_more hst, List.map_append]
        exact pr_app ((hs.same s2).upd hacc2) (.cons (StepV.upd g2 hacc2) .nil)
    · rintro Hc ⟨acc, hacc, s', hs⟩
      refine q _ _ s' ⟨D, acc, rfl, hacc, ?_⟩
      rw [lw, show l.length = l.reverse.length from (List.length_reverse).symm, List.take_length, List.map_reverse] at hs
      exact hs
end
end Rw
end
section
set_option Elab.async false
set_option linter.all false
set_option maxRecDepth 100000
set_option maxHeartbeats 4000000
namespace Rw
open PySem PySem.Spec PyProof.Rows L2
open VapatBase (fileIn putFile dropFile namesOf flatStep inFile swapAll isInside disjoint)
section
variable {K : PySem.W.Frag} {mg : Str → Option Value}
/-! ### isinstance of a step -/
theorem more_ins (T : Tx K mg) {c : Str} (hc : c ∈ kinds) : insB K c = true ∧ ∀ d ∈ kinds, kitB2 K c d = true := by
  have h := T.more
  unfold exB at h
  rw [Bool.and_eq_true, Bool.and_eq_true] at h
  have h2 := List.all_eq_true.mp h.2.2 c hc
  rw [Bool.and_eq_true] at h2
  exact ⟨h2.1, fun d hd => List.all_eq_true.mp h2.2 d hd⟩
theorem cls_of (T : Tx K mg) : ∀ k, k < 5 → Cls K (He.ga K (cN k))
  | 0, _ => c_Hunk T
  | 1, _ => c_Swap T
  | 2, _ => c_Added T
  | 3, _ => c_Removed T
  | 4, _ => c_Moved T
  | n + 5, h => absurd h (by omega)
theorem cN_mem : ∀ k, k < 5 → cN k ∈ kinds
  | 0, _ => by simp [cN, kinds]
  | 1, _ => by simp [cN, kinds]
  | 2, _ => by simp [cN, kinds]
  | 3, _ => by simp [cN, kinds]
  | 4, _ => by simp [cN, kinds]
  | n + 5, h => absurd h (by omega)
theorem isi_ty (T : Tx K mg) {H : Hp} {v : V} {p : PStep} (h : StepV K H v p) : TyX K H v (.ref (He.ga K (cN (kd p)))) := by
  obtain ⟨a, dx, fs, rfl, h1, _⟩ := h.ins
  have h2 := (more_ins T (cN_mem _ (kd_lt p))).1
  unfold insB at h2
  rw [Bool.and_eq_true] at h2
  have h3 := T.more
  unfold exB at h3
  rw [Bool.and_eq_true, Bool.and_eq_true] at h3
  exact .base (.ins h1 (cls_of T _ (kd_lt p)) (of_decide_eq_true h2.1) (of_decide_eq_true h3.1) (of_decide_eq_true h3.2.1) (of_decide_eq_true h2.2))
theorem isi_kit (T : Tx K mg) (p : PStep) {d : Str} (hd : d ∈ kinds) : PySem.W.kitOne K (.ref (He.ga K (cN (kd p)))) (.ref (He.ga K d)) = some (decide (cN (kd p) = d)) :=
  of_decide_eq_true ((more_ins T (cN_mem _ (kd_lt p))).2 d hd)
theorem isi_read (T : Tx K mg) {H : Hp} {v : V} {p : PStep} {Q : VK} (h : StepV K H v p) {d : Str} (hd : d ∈ kinds) (q : Q (.bl (decide (cN (kd p) = d))) H) : rIsi K [v, .ref (He.ga K d)] H Q :=
  ⟨v, _, _, _, _, rfl, .own _, isi_ty T h, isi_kit T p hd, q⟩
theorem cN_Hunk : ∀ k, k < 5 → decide (cN k = "Hunk") = decide (k = 0)
  | 0, _ => by decide +kernel
  | 1, _ => by decide +kernel
  | 2, _ => by decide +kernel
  | 3, _ => by decide +kernel
  | 4, _ => by decide +kernel
  | n + 5, h => absurd h (by omega)
theorem is_Hunk (p : PStep) : decide (cN (kd p) = "Hunk") = decide (kd p = 0) := cN_Hunk _ (kd_lt p)
theorem cN_Swap : ∀ k, k < 5 → decide (cN k = "Swap") = decide (k = 1)
  | 0, _ => by decide +kernel
  | 1, _ => by decide +kernel
  | 2, _ => by decide +kernel
  | 3, _ => by decide +kernel
  | 4, _ => by decide +kernel
  | n + 5, h => absurd h (by omega)
theorem is_Swap (p : PStep) : decide (cN (kd p) = "Swap") = decide (kd p = 1) := cN_Swap _ (kd_lt p)
theorem cN_Moved : ∀ k, k < 5 → decide (cN k = "Moved") = decide (k = 4)
  | 0, _ => by decide +kernel
  | 1, _ => by decide +kernel
  | 2, _ => by decide +kernel
  | 3, _ => by decide +kernel
  | 4, _ => by decide +kernel
  | n + 5, h => absurd h (by omega)
theorem is_Moved (p : PStep) : decide (cN (kd p) = "Moved") = decide (kd p = 4) := cN_Moved _ (kd_lt p)
theorem inside_kd (p : PStep) : isInside p = (decide (kd p = 0) || decide (kd p = 1)) := by cases p <;> rfl
def spIsInside (K : PySem.W.Frag) : Sp := fun vs H Q _ => ∃ v p, vs = [v] ∧ StepV K H v p ∧ ∀ H', Same H H' → Q (.bl (isInside p)) H'
theorem ok_is_inside (T : Tx K mg) : Ok K mg 1 ("is_inside", none) ["step"] (spIsInside K) := by
  refine mk_ok T e_is_inside rfl rfl sc_is_inside (fun _ _ _ _ _ _ us hl => match us, hl with | [_], _ => rfl) (fun vs H Q E h => ?_) (fun P w base f cdv A outer s H vs Q E hr h => ?_)
  · obtain ⟨v, p, rfl, _⟩ := h; rfl
  · obtain ⟨v, p, rfl, hv, q⟩ := h
    refine ⟨_, (pss_one (ps_ret (pe_callB call_isiT (by rfl) (z_isinstance T) (by decide +kernel) (pa_cons (pv 0) (pa_cons (pe_tup (pa_cons (pe_gref (g_Hunk T)) (pa_cons (pe_gref (g_Swap T)) pa_nil))) pa_nil))))), ?_⟩
    refine ⟨_, rfl, by show 2 ≤ sizeLine; decide, fun tp hp => ?_⟩
    refine ⟨v, tp, _, _, [.ref (He.ga K "Hunk"), .ref (He.ga K "Swap")], isInside p, rfl, upd_same, .cons (.own _) (.cons (.own _) .nil), isi_ty T (hv.same (same_new hp)), ?_, q _ (same_new hp)⟩
    rw [inside_kd]
    refine kitAny_cons (isi_kit T p (by simp [kinds])) (fun h => ?_) (fun h => ?_)
    · rw [is_Hunk] at h
      rw [h, Bool.false_or]
      refine kitAny_cons (isi_kit T p (by simp [kinds])) (fun h2 => ?_) (fun h2 => ?_)
      · rw [is_Swap] at h2
        rw [h2]
        exact kitAny_nil
      · rw [is_Swap] at h2
        exact h2
    · rw [is_Hunk] at h
      rw [h]
      rfl
/-! ### share_one -/
theorem inV_ints (x : Int) (ms : List Int) : inV (V.int x) (ms.map V.int) = ms.contains x := by
  unfold inV
  rw [List.any_map, List.contains_eq_any_beq]
  congr 1
  funext y
  show eqV (V.int y) (V.int x) = (x == y)
  by_cases h : x = y
  · subst h
    simp [eqV]
  · have h2 : ¬ y = x := fun k => h k.symm
    have e1 : (y == x) = false := beq_eq_false_iff_ne.mpr h2
    have e2 : (x == y) = false := beq_eq_false_iff_ne.mpr h
    rw [e2]
    exact e1
def spShareOne (K : PySem.W.Frag) : Sp := fun vs H Q _ => ∃ v w ns ms, vs = [v, w] ∧ IntsV H v ns ∧ IntsV H w ms ∧ ns.length ≤ 1000 ∧ ∀ H', Same H H' → Q (.bl (ns.any fun x => ms.contains x)) H'
theorem flat_ints (ms : List Int) : (ms.map V.int).all flatV = true := by
  rw [List.all_map]
  exact List.all_eq_true.mpr fun _ _ => rfl
theorem ok_share_one (T : Tx K mg) : Ok K mg 1 ("share_one", none) ["some", "others"] (spShareOne K) := by
  refine mk_ok T e_share_one rfl rfl sc_share_one (fun _ _ _ _ _ _ us hl => match us, hl with | [_, _], _ => rfl) (fun vs H Q E h => ?_) (fun P w base f cdv A outer s H vs Q E hr h => ?_)
  · obtain ⟨v, w, ns, ms, rfl, _⟩ := h; rfl
  · obtain ⟨v, w2, ns, ms, rfl, ⟨a, rfl, ha⟩, ⟨b, rfl, hb⟩, hl, q⟩ := h
    refine ⟨_, (pss_one (ps_ret (pe_callB (cr_any rfl) (by rfl) (z_any T) (by decide +kernel) (pa_cons (pe_lc (te := (tOp (rIn K false) (tVar 2) (tVar 1))) (own := [("value", 2)]) (g := gName 2) (by rfl) sc_share_one.nd (pi_list (pv 0)) (blkOk_by (own := [("value", 2)]) (N := nm_share_one) (sc := defScope s_share_one) (by decide +kernel)) (fun _ _ _ _ _ => pg_name (i := 2) sc_share_one.nd rfl (Or.inl rfl)) (fun _ _ _ _ _ => pts_nil) (fun _ _ _ _ _ => (pe_cmpR op_in_seq (pv 2) (pv 1) (by rfl)))) pa_nil)))), ?_⟩
    have hz : (ns.map V.int).length < sizeLine := by rw [List.length_map]; exact Nat.lt_of_le_of_lt hl (by decide)
    refine ⟨_, rfl, a, rfl, ⟨_, SqL.of ha⟩, fun D hD => comp_map L2.walk_list (fun v => .bl (inV v (ms.map V.int))) hz (fun acc => SqL.of (same_new hD _ _ ha)) (fun y hy acc Q2 q2 => ?_) ?_⟩
    · obtain ⟨z, _, rfl⟩ := List.mem_map.mp hy
      exact ⟨_, rfl, _, rfl, b, _, rfl, .inl (SqL.of (same_new hD _ _ hb)), rfl, flat_ints ms, q2⟩
    · refine ⟨D, ns.map fun x => ms.contains x, rfl, SqL.of ?_, ?_⟩
      · rw [upd_same, List.map_map, List.map_map]
        refine congrArg (fun w => some (HO.lst w)) (List.map_congr_left fun x _ => ?_)
        show V.bl (inV (V.int x) (ms.map V.int)) = V.bl (ms.contains x)
        rw [inV_ints]
      · rw [List.any_map]
        exact q _ (same_new hD)
theorem share_nats (l m : List Nat) : ((l.map fun (n : Nat) => (n : Int)).any fun x => (m.map fun (n : Nat) => (n : Int)).contains x) = !disjoint l m := by
    unfold disjoint
    rw [List.any_map, List.not_all_eq_any_not]
    congr 1
    funext x
    simp only [Function.comp, Bool.not_not]
    rw [Bool.eq_iff_iff, List.contains_iff_mem, List.contains_iff_mem, List.mem_map]
    constructor
    · rintro ⟨y, hy, e⟩
      have : y = x := by omega
      exact this ▸ hy
    · intro h
      exact ⟨x, h, rfl⟩
end
end Rw
end
section
set_option Elab.async false
set_option linter.all false
set_option maxRecDepth 100000
set_option maxHeartbeats 4000000
namespace Rw
open PySem PySem.Spec PyProof.Rows L2
open VapatBase (fileIn putFile dropFile namesOf flatStep inFile swapAll isInside disjoint commutedInside)
def PairV (K : PySem.W.Frag) (H : Hp) (v : V) (r : PStep × PStep) : Prop := ∃ a x y, v = .ref a ∧ H a = some (.tup [x, y]) ∧ StepV K H x r.1 ∧ StepV K H y r.2
theorem PairV.same {K : PySem.W.Frag} {H H' : Hp} {v : V} {r : PStep × PStep} (s : Same H H') (h : PairV K H v r) : PairV K H' v r := by
  obtain ⟨a, x, y, e, h1, h2, h3⟩ := h
  exact ⟨a, x, y, e, s _ _ h1, h2.same s, h3.same s⟩
/-- a pair of steps told as a new tuple -/
theorem pair_new {K : PySem.W.Frag} {H : Hp} {x y : V} {p q : PStep} {Q : VK} (hx : StepV K H x p) (hy : StepV K H y q) (k : ∀ r H', Same H H' → PairV K H' r (p, q) → Q r H') :
    ([x, y] : List V).length ≤ sizeLine ∧ ∀ a, H a = none → Q (.ref a) (upd H a (.tup [x, y])) :=
  ⟨by show 2 ≤ sizeLine; decide, fun a ha => k _ _ (same_new ha) ⟨a, x, y, rfl, upd_same, hx.same (same_new ha), hy.same (same_new ha)⟩⟩
section
variable {K : PySem.W.Frag} {mg : Str → Option Value}
def spComm (K : PySem.W.Frag) (A : PStep → PStep → Prop) (g : PStep → PStep → Option (PStep × PStep)) : Sp := fun vs H Q _ => ∃ v w p q, vs = [v, w] ∧ StepV K H v p ∧ StepV K H w q ∧ A p q ∧ ∀ r H', Same H H' → OptV (PairV K H') r (g p q) → Q r H'
theorem ok_hunks_commuted (T : Tx K mg) : Ok K mg 4 ("hunks_commuted", none) ["step", "behind"] (spComm K (fun p q => kd p = 0 ∧ kd q = 0 ∧ namesOf p = namesOf q) commutedInside) := by
  refine mk_ok T e_hunks_commuted rfl rfl sc_hunks_commuted (fun _ _ _ _ _ _ us hl => match us, hl with | [_, _], _ => rfl) (fun vs H Q E h => ?_) (fun P w base f cdv A outer s H vs Q E hr h => ?_)
  · obtain ⟨v, w, p, q, rfl, _⟩ := h; rfl
  · obtain ⟨v, w2, p, r, rfl, hp, hr2, ⟨hk1, hk2, hk3⟩, q⟩ := h
    refine ⟨_, (pss_cons (ps_if (pt_cmpR op_gt (pe_op op_sub (pe_fld (pv 1) rfl) (pe_fld (pv 0) rfl)) (pe_callB call_len_seq (by rfl) (z_len T) (by decide +kernel) (pa_cons (pe_fld (pv 0) rfl) pa_nil)) (nomark _)) (pss_cons (ps_set (i := 2) sc_hunks_commuted.nd rfl (Or.inl rfl) (pe_op op_add (pe_op op_sub (pe_fld (pv 1) rfl) (pe_callB call_len_seq (by rfl) (z_len T) (by decide +kernel) (pa_cons (pe_fld (pv 0) rfl) pa_nil))) (pe_callB call_len_seq (by rfl) (z_len T) (by decide +kernel) (pa_cons (pe_fld (pv 0) rfl) pa_nil)))) (pss_one (ps_ret (pe_tup (pa_cons (pe_mp (k := 3) (pv 1) (hr.mono (by decide)) (pa_cons (pv 2) pa_nil)) (pa_cons (pv 0) pa_nil)))))) pss_nil) (pss_cons (ps_if (pt_cmpR op_gt (pe_op op_sub (pe_fld (pv 0) rfl) (pe_fld (pv 1) rfl)) (pe_callB call_len_seq (by rfl) (z_len T) (by decide +kernel) (pa_cons (pe_fld (pv 1) rfl) pa_nil)) (nomark _)) (pss_cons (ps_set (i := 2) sc_hunks_commuted.nd rfl (Or.inl rfl) (pe_op op_add (pe_op op_sub (pe_fld (pv 0) rfl) (pe_callB call_len_seq (by rfl) (z_len T) (by decide +kernel) (pa_cons (pe_fld (pv 1) rfl) pa_nil))) (pe_callB call_len_seq (by rfl) (z_len T) (by decide +kernel) (pa_cons (pe_fld (pv 1) rfl) pa_nil)))) (pss_one (ps_ret (pe_tup (pa_cons (pv 1) (pa_cons (pe_mp (k := 3) (pv 0) (hr.mono (by decide)) (pa_cons (pv 2) pa_nil)) pa_nil)))))) pss_nil) (pss_one (ps_ret pe_non)))), ?_⟩
    cases p with
    | hunk f a o n =>
      cases r with
      | hunk g b u v2 =>
        obtain ⟨hw, x, dx, rfl, po, pn, hx, ho, hn⟩ := id hp
        obtain ⟨hw2, y, dy, rfl, qo, qn, hy, hu, hv⟩ := id hr2
        cases (show [f] = [g] from hk3)
        have lt : ∀ l : List Nat, (toks l).length = l.length := fun l => List.length_map _
        have mo := m_ok (c_Hunk T) (m_Hunk_standing_at T) (ok_Hunk_standing_at T)
        refine ⟨_, rfl, y, _, dy, _, _, rfl, hy, c_Hunk T, n_Hunk_place T, l_Hunk_place, _, rfl, x, _, dx, _, _, rfl, hx, c_Hunk T, n_Hunk_place T, l_Hunk_place, _, _, rfl, rfl, _, rfl, x, _, dx, _, _, rfl, hx, c_Hunk T, n_Hunk_new T, l_Hunk_new, pn, _, rfl, .inr (SqT.of hn), _, _, rfl, rfl, _, rfl, ?_⟩
        rw [lt]
        refine ite2 (fun c => ?_) (fun c => ?_)
        · have hc : a + n.length < b := by have := of_decide_eq_true c; omega
          have e : commutedInside (.hunk f a o n) (.hunk f b u v2) = some (.hunk f (b - n.length + o.length) u v2, .hunk f a o n) := if_pos hc
          rw [e] at q
          refine ⟨_, rfl, y, _, dy, _, _, rfl, hy, c_Hunk T, n_Hunk_place T, l_Hunk_place, _, rfl, x, _, dx, _, _, rfl, hx, c_Hunk T, n_Hunk_new T, l_Hunk_new, pn, _, rfl, .inr (SqT.of hn), _, _, rfl, rfl, _, rfl, x, _, dx, _, _, rfl, hx, c_Hunk T, n_Hunk_old T, l_Hunk_old, po, _, rfl, .inr (SqT.of ho), _, _, rfl, rfl, ?_⟩
          refine ⟨_, rfl, _, y, dy, _, _, mo, rfl, hy, l_Hunk_no (by decide +kernel) (by decide +kernel) (by decide +kernel) (by decide +kernel), _, rfl, _, _, _, b - n.length + o.length, rfl, hr2, rfl, ?_, fun r1 H1 s1 g1 => ?_⟩
          · show V.int _ = V.int _
            rw [lt, lt]
            congr 1
            omega
          · exact ⟨_, rfl, pair_new (g1 _ _ _ _ rfl) (hp.same s1) fun r2 H2 s2 g2 => q _ _ (s1.trans s2) g2⟩
        · have hc : ¬ a + n.length < b := by have := of_decide_eq_false (Bool.eq_false_iff.mpr c); omega
          refine ⟨_, rfl, x, _, dx, _, _, rfl, hx, c_Hunk T, n_Hunk_place T, l_Hunk_place, _, rfl, y, _, dy, _, _, rfl, hy, c_Hunk T, n_Hunk_place T, l_Hunk_place, _, _, rfl, rfl, _, rfl, y, _, dy, _, _, rfl, hy, c_Hunk T, n_Hunk_old T, l_Hunk_old, qo, _, rfl, .inr (SqT.of hu), _, _, rfl, rfl, _, rfl, ?_⟩
          rw [lt]
          refine ite2 (fun c2 => ?_) (fun c2 => ?_)
          · have hc2 : b + u.length < a := by have := of_decide_eq_true c2; omega
            have e : commutedInside (.hunk f a o n) (.hunk f b u v2) = some (.hunk f b u v2, .hunk f (a - u.length + v2.length) o n) := (if_neg hc).trans (if_pos hc2)
            rw [e] at q
            refine ⟨_, rfl, x, _, dx, _, _, rfl, hx, c_Hunk T, n_Hunk_place T, l_Hunk_place, _, rfl, y, _, dy, _, _, rfl, hy, c_Hunk T, n_Hunk_old T, l_Hunk_old, qo, _, rfl, .inr (SqT.of hu), _, _, rfl, rfl, _, rfl, y, _, dy, _, _, rfl, hy, c_Hunk T, n_Hunk_new T, l_Hunk_new, qn, _, rfl, .inr (SqT.of hv), _, _, rfl, rfl, ?_⟩
            refine ⟨_, rfl, _, rfl, _, x, dx, _, _, mo, rfl, hx, l_Hunk_no (by decide +kernel) (by decide +kernel) (by decide +kernel) (by decide +kernel), _, rfl, _, _, _, a - u.length + v2.length, rfl, hp, rfl, ?_, fun r1 H1 s1 g1 => ?_⟩
            · show V.int _ = V.int _
              rw [lt, lt]
              congr 1
              omega
            · exact pair_new (hr2.same s1) (g1 _ _ _ _ rfl) fun r2 H2 s2 g2 => q _ _ (s1.trans s2) g2
          · have hc2 : ¬ b + u.length < a := by have := of_decide_eq_false (Bool.eq_false_iff.mpr c2); omega
            have e : commutedInside (.hunk f a o n) (.hunk f b u v2) = none := (if_neg hc).trans (if_neg hc2)
            rw [e] at q
            exact q _ _ (Same.refl _) rfl
      | swap _ _ _ => cases hk2
      | add _ => cases hk2
      | remove _ => cases hk2
      | move _ _ => cases hk2
    | swap _ _ _ => cases hk1
    | add _ => cases hk1
    | remove _ => cases hk1
    | move _ _ => cases hk1
theorem ok_commuted_in_file (T : Tx K mg) : Ok K mg 5 ("commuted_in_file", none) ["step", "behind"] (spComm K (fun p q => isInside p = true ∧ isInside q = true ∧ namesOf p = namesOf q) commutedInside) := by
  refine mk_ok T e_commuted_in_file rfl rfl sc_commuted_in_file (fun _ _ _ _ _ _ us hl => match us, hl with | [_, _], _ => rfl) (fun vs H Q E h => ?_) (fun P w base f cdv A outer s H vs Q E hr h => ?_)
  · obtain ⟨v, w, p, q, rfl, _⟩ := h; rfl
  · obtain ⟨v, w2, p, r, rfl, hp, hr2, ⟨hk1, hk2, hk3⟩, q⟩ := h
    refine ⟨_, (pss_cons (ps_if (PW.pt (pw_and (pt_val (pe_callB call_isi (by rfl) (z_isinstance T) (by decide +kernel) (pa_cons (pv 0) (pa_cons (pe_gref (g_Hunk T)) pa_nil)))) (pw_and1 (pt_val (pe_callB call_isi (by rfl) (z_isinstance T) (by decide +kernel) (pa_cons (pv 1) (pa_cons (pe_gref (g_Hunk T)) pa_nil))))))) (pss_one (ps_ret (pe_f (ok_hunks_commuted T) (g_hunks_commuted T) (hr.mono (by decide)) (pa_cons (pv 0) (pa_cons (pv 1) pa_nil))))) pss_nil) (pss_cons (ps_if (pt_val (pe_callB call_isi (by rfl) (z_isinstance T) (by decide +kernel) (pa_cons (pv 0) (pa_cons (pe_gref (g_Hunk T)) pa_nil)))) (pss_one (ps_ret (pe_tup (pa_cons (pv 1) (pa_cons (pe_mp (k := 3) (pv 0) (hr.mono (by decide)) (pa_cons (pv 1) pa_nil)) pa_nil))))) pss_nil) (pss_cons (ps_if (pt_val (pe_callB call_isi (by rfl) (z_isinstance T) (by decide +kernel) (pa_cons (pv 1) (pa_cons (pe_gref (g_Hunk T)) pa_nil)))) (pss_one (ps_ret (pe_tup (pa_cons (pe_mp (k := 3) (pv 1) (hr.mono (by decide)) (pa_cons (pv 0) pa_nil)) (pa_cons (pv 0) pa_nil))))) pss_nil) (pss_cons (ps_if (pt_val (pe_f (ok_share_one T) (g_share_one T) (hr.mono (by decide)) (pa_cons (pe_mp0 (k := 1) (pv 0) (hr.mono (by decide))) (pa_cons (pe_mp0 (k := 1) (pv 1) (hr.mono (by decide))) pa_nil)))) (pss_one (ps_ret pe_non)) pss_nil) (pss_one (ps_ret (pe_tup (pa_cons (pv 1) (pa_cons (pv 0) pa_nil))))))))), ?_⟩
    refine ⟨_, rfl, _, _, _, _, _, rfl, .own _, isi_ty T hp, isi_kit T _ (by simp [kinds]), _, rfl, ?_⟩
    rw [is_Hunk]
    cases p with
    | hunk f a o n =>
      refine ⟨_, rfl, _, _, _, _, _, rfl, .own _, isi_ty T hr2, isi_kit T _ (by simp [kinds]), _, rfl, ?_⟩
      rw [is_Hunk]
      cases r with
      | hunk g b u v2 => exact ⟨_, rfl, _, rfl, _, _, _, _, rfl, hp, hr2, ⟨rfl, rfl, hk3⟩, q⟩
      | swap g b c =>
        cases (show [f] = [g] from hk3)
        refine ⟨_, rfl, _, _, _, _, _, rfl, .own _, isi_ty T hp, isi_kit T _ (by simp [kinds]), _, rfl, ?_⟩
        rw [is_Hunk]
        obtain ⟨x, dx, fs, rfl, hx, hno⟩ := hp.ins
        have mo := m_ok (c_Hunk T) (m_Hunk_swapped T) (ok_Hunk_swapped T)
        refine ⟨_, rfl, _, rfl, _, x, dx, _, _, mo, rfl, hx, hno _ (by decide +kernel), _, rfl, _, _, _, _, rfl, hp, rfl, ⟨hr2, rfl⟩, fun r1 H1 s1 g1 => ?_⟩
        exact pair_new (hr2.same s1) (g1 _ _ _ _ _ _ _ rfl rfl) fun r2 H2 s2 g2 => q _ _ (s1.trans s2) g2
      | add _ => cases hk2
      | remove _ => cases hk2
      | move _ _ => cases hk2
    | swap f a b =>
      refine ⟨_, rfl, _, _, _, _, _, rfl, .own _, isi_ty T hp, isi_kit T _ (by simp [kinds]), _, rfl, ?_⟩
      rw [is_Hunk]
      refine ⟨_, rfl, _, _, _, _, _, rfl, .own _, isi_ty T hr2, isi_kit T _ (by simp [kinds]), _, rfl, ?_⟩
      rw [is_Hunk]
      cases r with
      | hunk g c u v2 =>
        cases (show [f] = [g] from hk3)
        obtain ⟨x, dx, fs, rfl, hx, hno⟩ := hr2.ins
        have mo := m_ok (c_Hunk T) (m_Hunk_swapped T) (ok_Hunk_swapped T)
        refine ⟨_, rfl, _, x, dx, _, _, mo, rfl, hx, hno _ (by decide +kernel), _, rfl, _, _, _, _, rfl, hr2, rfl, ⟨hp, rfl⟩, fun r1 H1 s1 g1 => ?_⟩
        exact ⟨_, rfl, pair_new (g1 _ _ _ _ _ _ _ rfl rfl) (hp.same s1) fun r2 H2 s2 g2 => q _ _ (s1.trans s2) g2⟩
      | swap g c d =>
        cases (show [f] = [g] from hk3)
        obtain ⟨x, dx, fs, rfl, hx, hno⟩ := hp.ins
        obtain ⟨y, dy, fs2, rfl, hy, hno2⟩ := hr2.ins
        have mo := m_ok (c_Swap T) (m_Swap_tokens T) (ok_Swap_tokens T)
        refine ⟨_, rfl, _, x, dx, _, _, mo, rfl, hx, hno _ (by decide +kernel), _, _, rfl, hp, rfl, fun r1 H1 s1 g1 => ?_⟩
        refine ⟨_, rfl, _, y, dy, _, _, mo, rfl, s1 _ _ hy, hno2 _ (by decide +kernel), _, _, rfl, hr2.same s1, rfl, fun r2 H2 s2 g2 => ?_⟩
        have s12 := s1.trans s2
        obtain ⟨l1, rfl, e1⟩ := g1 _ _ _ rfl
        refine ⟨_, _, _, _, rfl, ⟨l1, rfl, s2 _ _ e1⟩, g2 _ _ _ rfl, by show 2 ≤ 1000; decide, fun H3 s3 => ?_⟩
        have s13 := s12.trans s3
        have e : ([(a : Int), (b : Int)].any fun x => [(c : Int), (d : Int)].contains x) = !disjoint [a, b] [c, d] := share_nats [a, b] [c, d]
        refine ⟨_, rfl, ?_⟩
        rw [e]
        cases ed : disjoint [a, b] [c, d] with
        | true =>
          have hc : commutedInside (.swap f a b) (.swap f c d) = some (.swap f c d, .swap f a b) := if_pos ed
          rw [hc] at q
          exact ⟨_, rfl, _, rfl, pair_new (hr2.same s13) (hp.same s13) fun r3 H4 s4 g4 => q _ _ (s13.trans s4) g4⟩
        | false =>
          have hc : commutedInside (.swap f a b) (.swap f c d) = none := if_neg (by rw [ed]; simp)
          rw [hc] at q
          exact q _ _ s13 rfl
      | add _ => cases hk2
      | remove _ => cases hk2
      | move _ _ => cases hk2
    | add _ => cases hk1
    | remove _ => cases hk1
    | move _ _ => cases hk1
end
end Rw
end
section
set_option Elab.async false
set_option linter.all false
set_option maxRecDepth 100000
set_option maxHeartbeats 4000000
namespace Rw
open PySem PySem.Spec PyProof.Rows L2
open VapatBase (fileIn putFile dropFile namesOf flatStep inFile swapAll isInside disjoint commutedInside)
section
variable {K : PySem.W.Frag} {mg : Str → Option Value}
theorem file_of (T : Tx K mg) {H : Hp} {v : V} {q : PStep} (h : StepV K H v q) (hi : isInside q = true) : ∃ a C dx fs f, namesOf q = [f] ∧ f < 10 ∧ v = .ref a ∧ H a = some (.ins C dx fs) ∧ Cls K C ∧ NoAttr K C "file" ∧ fs.lookup ("file" : Str) = some (.int (f : Int)) := by
  cases q with
  | hunk f a o n =>
    obtain ⟨hw, x, dx, rfl, po, pn, hx, _⟩ := h
    exact ⟨x, _, dx, _, f, rfl, hw.1, rfl, hx, c_Hunk T, n_Hunk_file T, l_Hunk_file⟩
  | swap f a b =>
    obtain ⟨hw, x, dx, rfl, hx⟩ := h
    exact ⟨x, _, dx, _, f, rfl, hw, rfl, hx, c_Swap T, n_Swap_file T, l_Swap_file⟩
  | add _ => cases hi
  | remove _ => cases hi
  | move _ _ => cases hi
/-- o.inside(g), o a hunk or a swap -/
theorem rd_inside (T : Tx K mg) {H : Hp} {v : V} {q : PStep} (h : StepV K H v q) (hi : isInside q = true) {g : Nat} {Q : VK} (hg : g < 10) (k : ∀ r H', Same H H' → StepV K H' r (inFile g q) → Q r H') :
    ∃ (C a dx : Addr) (fs : List (Str × V)) (sp : Sp), MOk K mg 3 C "inside" sp ∧ v = .ref a ∧ H a = some (.ins C dx fs) ∧ fs.lookup ("inside" : Str) = none ∧ sp [v, .int (g : Int)] H Q E0 := by
  obtain ⟨a, dx, fs, e, h1, h2⟩ := h.ins
  cases q with
  | hunk f b o n => exact ⟨_, a, dx, fs, _, m_ok (c_Hunk T) (m_Hunk_inside T) (ok_Hunk_inside T), e, h1, h2 _ (by decide +kernel), v, _, _, g, rfl, h, rfl, ⟨rfl, hg⟩, k⟩
  | swap f b c => exact ⟨_, a, dx, fs, _, m_ok (c_Swap T) (m_Swap_inside T) (ok_Swap_inside T), e, h1, h2 _ (by decide +kernel), v, _, _, g, rfl, h, rfl, ⟨rfl, hg⟩, k⟩
  | add _ => cases hi
  | remove _ => cases hi
  | move _ _ => cases hi
theorem comm_in_move {p : PStep} (ip : isInside p = true) (g k : Nat) (ed : disjoint (VapatBase.namesOf p) (VapatBase.namesOf (.move g k)) = false) : VapatBase.commuted p (.move g k) = if VapatBase.namesOf p == [g] then some (.move g k, inFile k p) else none := by
  unfold VapatBase.commuted
  rw [ed]
  cases p with
  | hunk _ _ _ _ => simp [isInside]
  | swap _ _ _ => simp [isInside]
  | add _ => cases ip
  | remove _ => cases ip
  | move _ _ => cases ip
theorem comm_move_in (q : PStep) (f g : Nat) (ed : disjoint (VapatBase.namesOf (.move f g)) (VapatBase.namesOf q) = false) : VapatBase.commuted (.move f g) q = if isInside q && VapatBase.namesOf q == [g] then some (inFile f q, .move f g) else none := by
  unfold VapatBase.commuted
  rw [ed]
  cases q <;> simp [isInside]
theorem comm_none {p q : PStep} (ed : disjoint (VapatBase.namesOf p) (VapatBase.namesOf q) = false) (h1 : (isInside p && isInside q) = false) (h2 : ¬ kd p = 4) (h3 : isInside p = true → ¬ kd q = 4) : VapatBase.commuted p q = none := by
  unfold VapatBase.commuted
  rw [ed, h1]
  cases p <;> cases q <;> simp_all [isInside, kd]
theorem names_few (p : PStep) : ((namesOf p).map fun (n : Nat) => (n : Int)).length ≤ 1000 := by cases p <;> simp [VapatBase.namesOf]
theorem ok_commuted (T : Tx K mg) : Ok K mg 6 ("commuted", none) ["step", "behind"] (spComm K (fun _ _ => True) VapatBase.commuted) := by
  refine mk_ok T e_commuted rfl rfl sc_commuted (fun _ _ _ _ _ _ us hl => match us, hl with | [_, _], _ => rfl) (fun vs H Q E h => ?_) (fun P w base f cdv A outer s H vs Q E hr h => ?_)
  · obtain ⟨v, w, p, q, rfl, _⟩ := h; rfl
  · obtain ⟨v, w2, p, r, rfl, hp, hr2, _, q⟩ := h
    refine ⟨_, (pss_cons (ps_if (pt_not (pt_val (pe_f (ok_share_one T) (g_share_one T) (hr.mono (by decide)) (pa_cons (pe_mp0 (k := 1) (pv 0) (hr.mono (by decide))) (pa_cons (pe_mp0 (k := 1) (pv 1) (hr.mono (by decide))) pa_nil))))) (pss_one (ps_ret (pe_tup (pa_cons (pv 1) (pa_cons (pv 0) pa_nil))))) pss_nil) (pss_cons (ps_if (PW.pt (pw_and (pt_val (pe_f (ok_is_inside T) (g_is_inside T) (hr.mono (by decide)) (pa_cons (pv 0) pa_nil))) (pw_and1 (pt_val (pe_f (ok_is_inside T) (g_is_inside T) (hr.mono (by decide)) (pa_cons (pv 1) pa_nil)))))) (pss_one (ps_ret (pe_f (ok_commuted_in_file T) (g_commuted_in_file T) (hr.mono (by decide)) (pa_cons (pv 0) (pa_cons (pv 1) pa_nil))))) pss_nil) (pss_cons (ps_if (PW.pt (pw_and (pt_val (pe_callB call_isi (by rfl) (z_isinstance T) (by decide +kernel) (pa_cons (pv 0) (pa_cons (pe_gref (g_Moved T)) pa_nil)))) (pw_and (pt_val (pe_f (ok_is_inside T) (g_is_inside T) (hr.mono (by decide)) (pa_cons (pv 1) pa_nil))) (pw_and1 (pt_cmpR op_eq (pe_fld (pv 1) rfl) (pe_fld (pv 0) rfl) (nomark _)))))) (pss_one (ps_ret (pe_tup (pa_cons (pe_mp (k := 3) (pv 1) (hr.mono (by decide)) (pa_cons (pe_fld (pv 0) rfl) pa_nil)) (pa_cons (pv 0) pa_nil))))) pss_nil) (pss_cons (ps_if (PW.pt (pw_and (pt_val (pe_f (ok_is_inside T) (g_is_inside T) (hr.mono (by decide)) (pa_cons (pv 0) pa_nil))) (pw_and (pt_val (pe_callB call_isi (by rfl) (z_isinstance T) (by decide +kernel) (pa_cons (pv 1) (pa_cons (pe_gref (g_Moved T)) pa_nil)))) (pw_and1 (pt_cmpR op_eq (pe_fld (pv 0) rfl) (pe_fld (pv 1) rfl) (nomark _)))))) (pss_one (ps_ret (pe_tup (pa_cons (pv 1) (pa_cons (pe_mp (k := 3) (pv 0) (hr.mono (by decide)) (pa_cons (pe_fld (pv 1) rfl) pa_nil)) pa_nil))))) pss_nil) (pss_one (ps_ret pe_non)))))), ?_⟩
    -- the names
    refine ⟨_, rfl, rd1 (any_names T) (by decide +kernel) hp fun r1 H1 s1 g1 => ?_⟩
    refine ⟨_, rfl, rd1 (any_names T) (by decide +kernel) (hr2.same s1) fun r2 H2 s2 g2 => ?_⟩
    obtain ⟨l1, rfl, g1⟩ := g1
    refine ⟨_, _, _, _, rfl, ⟨l1, rfl, s2 _ _ g1⟩, g2, names_few p, fun H3 s3 => ⟨_, rfl, ?_⟩⟩
    have s13 := (s1.trans s2).trans s3
    rw [share_nats]
    clear s1 s2 s3 g1 g2
    cases ed : disjoint (namesOf p) (namesOf r) with
    | true =>
      have hc : VapatBase.commuted p r = some (r, p) := if_pos ed
      rw [hc] at q
      exact ⟨_, rfl, _, rfl, pair_new (hr2.same s13) (hp.same s13) fun r3 H4 s4 g4 => q _ _ (s13.trans s4) g4⟩
    | false =>
      have hp := hp.same s13
      have hr2 := hr2.same s13
      refine ⟨_, rfl, _, _, rfl, hp, fun H4 s4 => ⟨_, rfl, ?_⟩⟩
      have hp := hp.same s4
      have hr2 := hr2.same s4
      have s14 := s13.trans s4
      clear s13 s4
      cases ip : isInside p with
      | true =>
        refine ⟨_, rfl, _, _, rfl, hr2, fun H5 s5 => ⟨_, rfl, ?_⟩⟩
        have hp := hp.same s5
        have hr2 := hr2.same s5
        have s15 := s14.trans s5
        clear s14 s5
        cases ir : isInside r with
        | true =>
          have hn : namesOf p = namesOf r := by
            obtain ⟨_, _, _, _, f, e1, _⟩ := file_of T hp ip
            obtain ⟨_, _, _, _, g, e2, _⟩ := file_of T hr2 ir
            rw [e1, e2] at ed ⊢
            rw [disj_false_iff] at ed
            obtain ⟨x, h1, h2⟩ := ed
            simp at h1 h2
            rw [← h1, ← h2]
          have hc : VapatBase.commuted p r = commutedInside p r := by
            unfold VapatBase.commuted
            rw [ed, ip, ir]
            rfl
          rw [hc] at q
          exact ⟨_, rfl, _, rfl, _, _, _, _, rfl, hp, hr2, ⟨ip, ir, hn⟩, fun r3 H6 s6 g6 => q _ _ (s15.trans s6) g6⟩
        | false =>
          have nm : decide (cN (kd p) = "Moved") = false := by
            rw [is_Moved]
            cases p with
            | hunk _ _ _ _ => rfl
            | swap _ _ _ => rfl
            | add _ => cases ip
            | remove _ => cases ip
            | move _ _ => cases ip
          refine ⟨_, rfl, _, _, _, _, _, rfl, .own _, isi_ty T hp, isi_kit T _ (by simp [kinds]), _, rfl, ?_⟩
          rw [nm]
          refine ⟨_, rfl, _, _, rfl, hp, fun H6 s6 => ⟨_, rfl, ?_⟩⟩
          have hp := hp.same s6
          have hr2 := hr2.same s6
          have s16 := s15.trans s6
          clear s15 s6
          rw [ip]
          refine ⟨_, rfl, _, _, _, _, _, rfl, .own _, isi_ty T hr2, isi_kit T _ (by simp [kinds]), _, rfl, ?_⟩
          rw [is_Moved]
          obtain ⟨a, C, dx, fs, f, en, hf, rfl, hx, cl, na, lk⟩ := file_of T hp ip
          have none' : ¬ kd r = 4 → Q .non H6 := fun hk => q _ _ s16 (by rw [comm_none ed (by rw [ir, Bool.and_false]) (fun z => by rw [is_Moved, z] at nm; cases nm) (fun _ => hk)]; rfl)
          cases r with
          | move g k =>
            obtain ⟨hw2, y, dy, rfl, hy⟩ := id hr2
            refine ⟨_, rfl, a, _, dx, _, _, rfl, hx, cl, na, lk, _, rfl, y, _, dy, _, _, rfl, hy, c_Moved T, n_Moved_old_name T, l_Moved_old_name, rfl, _, rfl, ?_⟩
            rw [eq_int]
            have hc := comm_in_move ip g k ed
            rw [hc, en] at q
            refine ite2 (fun c => ?_) (fun c => ?_)
            · have e : f = g := by have := of_decide_eq_true c; omega
              subst e
              obtain ⟨C2, a2, dx2, fs2, sp, mo, e2, h2, l2, k2⟩ := rd_inside T hp ip (g := k) (Q := fun r H7 => ([V.ref y, r] : List V).length ≤ sizeLine ∧ ∀ b, H7 b = none → Q (.ref b) (upd H7 b (.tup [V.ref y, r]))) hw2.2 (fun r H7 s7 g7 => pair_new (hr2.same s7) g7 fun r3 H8 s8 g8 => q _ _ ((s16.trans s7).trans s8) (by rw [if_pos (by simp)]; exact g8))
              exact ⟨_, rfl, _, rfl, C2, a2, dx2, fs2, sp, mo, e2, h2, l2, _, rfl, y, _, dy, _, _, rfl, hy, c_Moved T, n_Moved_new_name T, l_Moved_new_name, k2⟩
            · rw [if_neg (by simp; intro e; exact c (decide_eq_true (by omega)))] at q
              exact q _ _ s16 rfl
          | hunk _ _ _ _ => cases ir
          | swap _ _ _ => cases ir
          | add _ => exact none' (by simp [kd])
          | remove _ => exact none' (by simp [kd])
      | false =>
        refine ⟨_, rfl, _, _, _, _, _, rfl, .own _, isi_ty T hp, isi_kit T _ (by simp [kinds]), _, rfl, ?_⟩
        rw [is_Moved]
        have last : ∀ {H9 : Hp}, StepV K H9 v p → Same H H9 → VapatBase.commuted p r = none → ∀ H', Same H9 H' → Q .non H' := fun _ s9 e H' s' => q _ _ (s9.trans s') (by rw [e]; rfl)
        cases p with
        | move f g =>
          refine ⟨_, rfl, _, _, rfl, hr2, fun H5 s5 => ⟨_, rfl, ?_⟩⟩
          have hp := hp.same s5
          have hr2 := hr2.same s5
          have s15 := s14.trans s5
          clear s14 s5
          have hc := comm_move_in r f g ed
          obtain ⟨hw, x, dx, rfl, hx⟩ := id hp
          cases ir : isInside r with
          | true =>
            obtain ⟨a, C, dy, fs, k, en, hf, rfl, hy, cl, na, lk⟩ := file_of T hr2 ir
            refine ⟨_, rfl, a, _, dy, _, _, rfl, hy, cl, na, lk, _, rfl, x, _, dx, _, _, rfl, hx, c_Moved T, n_Moved_new_name T, l_Moved_new_name, rfl, _, rfl, ?_⟩
            rw [eq_int]
            rw [hc, ir, en] at q
            refine ite2 (fun c => ?_) (fun c => ?_)
            · have e : k = g := by have := of_decide_eq_true c; omega
              subst e
              obtain ⟨C2, a2, dx2, fs2, sp, mo, e2, h2, l2, k2⟩ := rd_inside T hr2 ir (g := f) (Q := fun z H7 => ∃ u, (start ["step", "behind"] [V.ref x, V.ref a])[0]? = some (some u) ∧ (([z, u] : List V).length ≤ sizeLine ∧ ∀ b, H7 b = none → Q (.ref b) (upd H7 b (.tup [z, u])))) hw.1 (fun z H7 s7 g7 => ⟨_, rfl, pair_new g7 (hp.same s7) fun r3 H8 s8 g8 => q _ _ ((s15.trans s7).trans s8) (by rw [if_pos (by simp)]; exact g8)⟩)
              exact ⟨_, rfl, C2, a2, dx2, fs2, sp, mo, e2, h2, l2, _, rfl, x, _, dx, _, _, rfl, hx, c_Moved T, n_Moved_old_name T, l_Moved_old_name, k2⟩
            · rw [if_neg (by simp; intro e; exact c (decide_eq_true (by omega)))] at q
              exact ⟨_, rfl, _, _, rfl, hp, fun H6 s6 => ⟨_, rfl, q _ _ (s15.trans s6) rfl⟩⟩
          | false =>
            rw [hc, ir] at q
            exact ⟨_, rfl, _, _, rfl, hp, fun H6 s6 => ⟨_, rfl, q _ _ (s15.trans s6) rfl⟩⟩
        | hunk _ _ _ _ => cases ip
        | swap _ _ _ => cases ip
        | add f => exact ⟨_, rfl, _, _, rfl, hp, fun H6 s6 => ⟨_, rfl, last hp s14 (comm_none ed rfl (by simp [kd]) (fun z => by cases z)) _ s6⟩⟩
        | remove f => exact ⟨_, rfl, _, _, rfl, hp, fun H6 s6 => ⟨_, rfl, last hp s14 (comm_none ed rfl (by simp [kd]) (fun z => by cases z)) _ s6⟩⟩
end
end Rw
end
section
set_option Elab.async false
set_option linter.all false
set_option maxRecDepth 100000
set_option maxHeartbeats 4000000
namespace Rw
open PySem PySem.Calls PyProof.Rows PyProof.V PySem.Spec L2
/-! ### list(reversed(xs)) -/
section
variable {prog : Program} {w : World} {A : Around} {s : Shared}
/-- what the turned list holds -/
abbrev Back (xs : Array Value) (acc : Array Value) : Prop := ItemsOf (fun i v => xs[xs.size - 1 - i]? = some v) acc xs.size
theorem lrev_extend {R : Result → Shared → Prop} {it l S : Addr} {xs : Array Value} {c₀ : Nat} (hh : A.handled = none)
    (hi : s.heap.IsRevIter it l ((xs.size : Int) - 1)) (hl : s.heap.IsList l xs) (nli : l ≠ it) (nSi : S ≠ it) (nSl : S ≠ l) (hz : xs.size ≤ sizeLine)
    (at_S : s.heap.get? S = some { cls := .type "list", data := .seq #[] c₀ })
    (k : ∀ (h' : Heap) (tk : Nat) (acc : Array Value) (c : Nat), (∀ b o, b ≠ S → b ≠ it → s.heap.get? b = some o → h'.get? b = some o) →
      h'.get? S = some { cls := .type "list", dict := none, data := .seq acc c, slots := #[] } → Back xs acc → R (.ok (.ret .none)) { s with heap := h', toks := tk }) :
    wpAny (model prog w) A.in1 (Builtin.List.listExtendWith (.ref S) (.ref it) .none)
      (fun fin s2 => match fin with
        | .done f => R (.ok f) s2
        | .again c => c.quiet = true ∧ codeAny (model prog w) A c R s2) (fun e s2 => R (.error e) s2) s := by
  have W := (Walks.listRev (A := A.in1) (prog := prog) (w := w) hh it l nli xs).toS
  have nS : S ∉ [it, l] := by simp [nSi, nSl]
  have ty := Heap.IsRevIter.typeIs (s := s) hi
  have ne : Builtin.List.listSameRef (.ref S) (.ref it) = false := by simp [Builtin.List.listSameRef, nSi]
  unfold Builtin.List.listExtendWith
  apply wpAny_bind
  apply wpAny_typeOf ty
  rw [if_neg (by rw [ne]; decide)]
  apply wpAny_bind
  apply wpAny_pyIter_revIter hi
  apply wpAny_bind
  apply wpAny_holding
  unfold Builtin.List.listLengthHint
  apply wpAny_bind
  apply wpAny_specialOf ty RT.nolen_lri
  show wpAny _ A.in1 (specialOf (Value.ref it) (Str.ofString "__length_hint__") >>= _) _ _ _
  apply wpAny_bind
  apply wpAny_specialOf ty RT.hint_lri
  generalize hd : ("list_reverseiterator.__length_hint__" : String) = d
  wp_delta
  rw [show splitId d = some ("list_reverseiterator", "__length_hint__") from by subst hd; decide +kernel]
  subst hd
  apply wpAny_bind
  apply wpAny_isInstance (b := true) ty (by rw [isSubtype_type]; kernel_rfl)
  apply wpAny_pure
  rw [if_neg (by decide)]
  have z0 : ((xs.size : Nat) : Int) - 1 - ((0 : Nat) : Int) = (xs.size : Int) - 1 := by omega
  refine wpAny_pure ⟨plainId_quiet F.plain_extend_loop _, codeAny_extend_loopS W hz S nS .none xs.size 0 _ _ _ rfl (Nat.zero_le _) ⟨Nat.zero_le _, by rw [z0]; exact hi, hl⟩ at_S (ItemsOf.nil _) fun s2 acc c mv gS ha => ?_⟩
  rw [Moved.eq_with mv]
  refine k s2.heap s2.toks acc c (fun b o n1 n2 e => mv.heap b o (fun z => ?_) e) gS ha
  rcases List.mem_cons.mp z with z | z
  · exact n1 z
  · exact n2 (List.mem_singleton.mp z)
theorem lrev_call {Q : Value → Shared → Prop} {E : Value → Shared → Prop} {it l : Addr} {xs : Array Value} (hh : A.handled = none)
    (hi : s.heap.IsRevIter it l ((xs.size : Int) - 1)) (hl : s.heap.IsList l xs) (nli : l ≠ it) (hz : xs.size ≤ sizeLine)
    (k : ∀ (h' : Heap) (tk : Nat) (acc : Array Value) (c : Nat), (∀ b o, b ≠ it → s.heap.get? b = some o → h'.get? b = some o) →
      h'.get? s.heap.objs.size = some { cls := .type "list", dict := none, data := .seq acc c, slots := #[] } → Back xs acc → Q (.ref s.heap.objs.size) { s with heap := h', toks := tk }) :
    wpAny (model prog w) A (call (.type "list") [.ref it]) Q E s := by
  obtain ⟨oi, gi, _⟩ := id hi
  obtain ⟨ol, gl, _⟩ := id hl
  have nSi : s.heap.objs.size ≠ it := Nat.ne_of_gt (Heap.lt_size gi)
  have nSl : s.heap.objs.size ≠ l := Nat.ne_of_gt (Heap.lt_size gl)
  refine callType_codes (Q₁ := fun v s2 => v = .ref s.heap.objs.size ∧ s2 = { s with heap := s.heap.push { cls := .type "list", data := .seq #[] } }) F.called_list
    (F.typeCall_list_1 _) F.entry_list_init (code_list_new _ ⟨rfl, rfl⟩) ?_
  rintro v s2 ⟨rfl, rfl⟩
  have g0 : (s.heap.push { cls := .type "list", data := .seq #[] }).get? s.heap.objs.size = some { cls := .type "list", data := .seq #[] } := Heap.get?_push_size _ rfl
  have go : ∀ b o, b ≠ s.heap.objs.size → (s.heap.push { cls := .type "list", data := .seq #[] }).get? b = some o →
      ((s.heap.push { cls := .type "list", data := .seq #[] }).update s.heap.objs.size (Obj.mapSeq (fun _ => (#[] : Array Value)))).get? b = some o :=
    fun b o n e => (Heap.get?_update_other _ _ (Ne.symm n)).trans e
  refine ⟨⟨_, g0, rfl⟩, F.args_list_init_2 _ _, ?_⟩
  show wpAny _ _ (do
    let old ← Builtin.List.listItems (.ref s.heap.objs.size)
    Builtin.List.listUpdate (.ref s.heap.objs.size) (fun _ => #[])
    letGo old.toList.reverse
    Builtin.List.listExtendWith (.ref s.heap.objs.size) (.ref it) .none) _ _ _
  apply wpAny_bind
  unfold Builtin.List.listItems
  apply wpAny_bind
  apply wpAny_seqItems g0 rfl
  apply wpAny_pure
  show wpAny _ _ (updateSeq s.heap.objs.size (fun _ => #[]) >>= fun _ =>
    letGo (#[] : Array Value).toList.reverse >>= fun _ => Builtin.List.listExtendWith (.ref s.heap.objs.size) (.ref it) .none) _ _ _
  apply wpAny_bind
  refine wpAny_updateSeq g0 rfl ?_
  have g1 := Heap.get?_update_self (Obj.mapSeq (fun _ => (#[] : Array Value))) g0 rfl
  apply wpAny_bind
  apply wpAny_letGo
  have hi2 := hi.at (h' := (s.heap.push { cls := .type "list", data := .seq #[] }).update s.heap.objs.size (Obj.mapSeq (fun _ => (#[] : Array Value)))) fun o e => go it o (Ne.symm nSi) (Heap.get?_push_of_some _ e)
  refine lrev_extend (A := A.in1) hh hi2 ?_ nli nSi nSl hz g1 fun h' tk acc c kp gS ha => ?_
  · obtain ⟨o, e, r⟩ := hl
    exact ⟨o, go l o (Ne.symm nSl) (Heap.get?_push_of_some _ e), r⟩
  · exact ⟨rfl, k h' tk acc c (fun b o n e => kp b o (Nat.ne_of_lt (Heap.lt_size e)) n (go b o (Nat.ne_of_lt (Heap.lt_size e)) (Heap.get?_push_of_some _ e))) gS ha⟩
end
/-- list(reversed(x)), x a list: a new list -/
def tLRev (K : PySem.W.Frag) (te : TE) : TE := fun σ H Q => te σ H fun v H1 => ∃ (a : Addr) (xs : List V), v = .ref a ∧ SqL K H1 a xs ∧ ∀ q, H1 q = none → Q (.ref q) (upd H1 q (.lst xs.reverse))
section
variable {X : Cx}
theorem pe_lrev {e : Expr} {te : TE} {p p2 pos pos2 : Pos} (hm : X.mg "list" = none) (hm2 : X.mg "reversed" = none) (he : PE X e te) (hc : X.calm = true := by rfl) (hg : Gl X "list" := by rfl) (hg2 : Gl X "reversed" := by rfl)
    (hs : starEach [e] X.env = (false, eval e X.env) :: starEach [] X.env := by rfl)
    (hs2 : starEach [.Call (.Name "reversed" p2) [e] [] pos2] X.env = (false, eval (.Call (.Name "reversed" p2) [e] [] pos2) X.env) :: starEach [] X.env := by rfl) :
    PE X (.Call (.Name "list" p) [.Call (.Name "reversed" p2) [e] [] pos2] [] pos) (tLRev X.K te) := by
  constructor
  intro pins s σ H Q I h
  refine Call_ (ld_blt I hg hm boot_list (callWith_type1 (args_cons (Call_ (ld_blt I hg2 hm2 boot_reversed (callWith_type1 (args_cons (thn (he.run pins s σ H _ I h) ?_) hs) hs rfl))) hs2) hs2 rfl))
  rintro u s1 ⟨v, H1, I1, r1, a, xs, rfl, hq, q⟩
  obtain rfl : u = Value.ref a := r1
  obtain ⟨its, rv, pl, hz⟩ := I1.list hq
  have hz2 : its.toArray.size ≤ sizeLine := by rw [List.size_toArray, ← rv.length]; exact hz
  obtain ⟨ol, gl, _⟩ := id pl.isList
  refine args_nil (call_reversed_list pl.isList (args_nil ?_))
  have up : ∀ b o, s1.heap.get? b = some o → (s1.heap.push (revObj a ((its.toArray.size : Int) - 1))).get? b = some o := fun _ _ e => Heap.get?_push_of_some _ e
  refine lrev_call (s := { s1 with heap := s1.heap.push (revObj a ((its.toArray.size : Int) - 1)) }) (I1.ok.hd hc) ⟨_, Heap.get?_push_size _ rfl, rfl, rfl⟩ (pl.isList.push _) (Nat.ne_of_lt (Heap.lt_size gl)) hz2 fun h' tk acc c kp gS ha => ?_
  have big : s1.heap.objs.size ≤ (s1.heap.push (revObj a ((its.toArray.size : Int) - 1))).objs.size := by simp [Heap.push]
  have J := I1.laid (t' := tk) (h' := h') (fun b o e => kp b o (Nat.ne_of_lt (Heap.lt_size e)) (up b o e)) big (o := .lst xs.reverse)
    ⟨by rw [List.length_reverse]; exact hz, acc.toList, c, RT.vals_rev rv ha, by rw [Array.toArray_toList]; exact gS⟩
  exact ⟨.ref _, _, J, rfl, q _ (I1.hok.fresh big)⟩
end
end Rw
end
section
set_option Elab.async false
set_option linter.all false
set_option maxRecDepth 100000
set_option maxHeartbeats 4000000
namespace Rw
open PySem PySem.Spec PyProof.Rows L2
open VapatBase (fileIn putFile dropFile namesOf flatStep inFile swapAll turnedAll)
open Vapatb (aheadOf rowsCommuted)
/-! ### bringing ahead, on the specification's side -/
def okOf {ε α : Type} : Except ε α → Option α
  | .ok a => some a
  | .error _ => none
theorem ahead_err : ∀ (l : List PStep) (q : PStep) (k : Nat), okOf (aheadOf (l.drop k) q) = none → okOf (aheadOf l q) = none
  | l, q, 0, h => h
  | [], q, k + 1, h => h
  | p :: l, q, k + 1, h => by
    have := ahead_err l q k h
    unfold aheadOf
    cases e : aheadOf l q with
    | error n => rfl
    | ok r => rw [e] at this; cases this
theorem ahead_no {l l1 : List PStep} {p q q1 : PStep} (h : aheadOf l q = .ok (q1, l1)) (c : VapatBase.commuted p q1 = none) : okOf (aheadOf (p :: l) q) = none := by
  unfold aheadOf
  rw [h]
  simp only [c, okOf]
theorem ahead_yes {l l1 : List PStep} {p q q1 : PStep} {r : PStep × PStep} (h : aheadOf l q = .ok (q1, l1)) (c : VapatBase.commuted p q1 = some r) : aheadOf (p :: l) q = .ok (r.1, r.2 :: l1) := by
  unfold aheadOf
  rw [h]
  simp only [c]
theorem ahead_len {l l1 : List PStep} {q q1 : PStep} (h : aheadOf l q = .ok (q1, l1)) : l1.length = l.length := MR_len ((aheadOf_iff _ _ _ _).mp h)
theorem rc_cons (l m : List PStep) (q : PStep) : rowsCommuted l (q :: m) = (okOf (aheadOf l q)).bind fun r => (rowsCommuted r.2 m).map fun z => (r.1 :: z.1, z.2) := by
  rw [rowsCommuted]
  cases aheadOf l q <;> rfl
theorem rc_nil (l : List PStep) : rowsCommuted l [] = some ([], l) := by rw [rowsCommuted]
theorem rc_app : ∀ (a b l : List PStep), rowsCommuted l (a ++ b) = (rowsCommuted l a).bind fun r => (rowsCommuted r.2 b).map fun z => (r.1 ++ z.1, z.2)
  | [], b, l => by
    rw [rc_nil]
    cases e : rowsCommuted l b <;> simp [e]
  | q :: a, b, l => by
    rw [List.cons_append, rc_cons, rc_cons]
    cases okOf (aheadOf l q) with
    | none => rfl
    | some r =>
      simp only [Option.bind_some]
      rw [rc_app a b r.2]
      cases rowsCommuted r.2 a with
      | none => rfl
      | some r2 =>
        simp only [Option.bind_some, Option.map_some]
        cases rowsCommuted r2.2 b with
        | none => rfl
        | some _ => rfl
theorem rc_one (l : List PStep) (q : PStep) : rowsCommuted l [q] = (okOf (aheadOf l q)).map fun r => ([r.1], r.2) := by
  rw [rc_cons]
  cases okOf (aheadOf l q) with
  | none => rfl
  | some r => rw [Option.bind_some, rc_nil]; rfl
theorem rc_len {l m m1 l1 : List PStep} (h : rowsCommuted l m = some (m1, l1)) : l1.length = l.length ∧ m1.length = m.length := by
  have h := (rowsCommuted_iff _ _ _ _).mp h
  exact ⟨MR_len h, (MR_len_right h).symm⟩
theorem none_of {H H' : Hp} {c : Addr} (s : Same H H') (h : H' c = none) : H c = none := by
  cases e : H c with
  | none => rfl
  | some o => rw [s _ _ e] at h; cases h
/-! ### two things as one tuple -/
def BothV {α β : Type} (A : Hp → V → α → Prop) (B : Hp → V → β → Prop) (H : Hp) (v : V) (r : α × β) : Prop := ∃ a x y, v = .ref a ∧ H a = some (.tup [x, y]) ∧ A H x r.1 ∧ B H y r.2
/-- a row in a list that H0 did not know -/
def RowN (K : PySem.W.Frag) (H0 H : Hp) (v : V) (l : List PStep) : Prop := ∃ a vs, v = .ref a ∧ H0 a = none ∧ H a = some (.lst vs) ∧ StepsV K H vs l
theorem RowN.row {K : PySem.W.Frag} {H0 H : Hp} {v : V} {l : List PStep} (h : RowN K H0 H v l) : RowV K H v l := by
  obtain ⟨a, vs, e, _, h1, h2⟩ := h
  exact ⟨a, vs, e, h1, h2⟩
section
variable {K : PySem.W.Frag} {mg : Str → Option Value}
def spAhead (K : PySem.W.Frag) : Sp := fun vs H Q _ => ∃ v w l q, vs = [v, w] ∧ RowV K H v l ∧ l.length ≤ 1000 ∧ StepV K H w q ∧ ∀ r H', Same H H' → OptV (BothV (StepV K) (RowN K H) H') r (okOf (aheadOf l q)) → Q r H'
theorem ok_step_brought_ahead (T : Tx K mg) : Ok K mg 7 ("step_brought_ahead", none) ["row", "step"] (spAhead K) := by
  refine mk_ok T e_step_brought_ahead rfl rfl sc_step_brought_ahead (fun _ _ _ _ _ _ us hl => match us, hl with | [_, _], _ => rfl) (fun vs H Q E h => ?_) (fun P w base f cdv A outer s H vs Q E hr h => ?_)
  · obtain ⟨v, w, l, q, rfl, _⟩ := h; rfl
  · obtain ⟨v, w, l, q, rfl, ⟨a, ws, rfl, ha, hws⟩, hl, hq, fin⟩ := h
    refine ⟨_, (pss_cons (ps_set (i := 2) sc_step_brought_ahead.nd rfl (Or.inl rfl) (pe_lst pa_nil)) (pss_cons (ps_for PassesOwn.never rfl (RT.pi_revA (by rfl) (z_reversed T) (pv 0)) (pg_name (i := 3) sc_step_brought_ahead.nd rfl (Or.inl rfl)) (pss_cons (ps_set (i := 4) sc_step_brought_ahead.nd rfl (Or.inl rfl) (pe_f (ok_commuted T) (g_commuted T) (hr.mono (by decide)) (pa_cons (pv 3) (pa_cons (pv 1) pa_nil)))) (pss_cons (ps_if (pt_cmpR op_isN (pv 4) pe_non (nomark _)) (pss_one (ps_ret pe_non)) pss_nil) (pss_cons (ps_set (i := 1) sc_step_brought_ahead.nd rfl (Or.inl rfl) (pe_ix ix_tup (pv 4) pe_int (fun _ _ => rfl))) (pss_one (ps_expr (pe_bm PySem.F.plainAttrs_list PySem.F.slot_list_append PySem.F.type_list_append mt_append (pv 2) (pa_cons (pe_ix ix_tup (pv 4) pe_int (fun _ _ => rfl)) pa_nil)))))))) (pss_one (ps_ret (pe_tup (pa_cons (pv 1) (pa_cons (pe_lrev (z_list T) (z_reversed T) (pv 2)) pa_nil))))))), ?_⟩
    have lw := pr_len hws
    refine ⟨by show 0 ≤ sizeLine; decide, fun p hp => ?_⟩
    have s0 := same_new (o := .lst []) hp
    refine ⟨_, rfl, a, ws, rfl, .inl ⟨SqL.of (s0 _ _ ha), RT.for_Itv (K := K) (a := a) (xs := ws) (fun i σ H' => ∃ u x3 x4 q' acc l', σ = [some (V.ref a), some u, some (V.ref p), x3, x4] ∧ Same H H' ∧ H' p = some (.lst acc) ∧ aheadOf (l.drop (l.length - i)) q = .ok (q', l') ∧ StepV K H' u q' ∧ StepsV K H' acc l'.reverse)
      ⟨w, none, none, q, [], [], rfl, s0, upd_same, by rw [Nat.sub_zero, List.drop_length]; rfl, hq.same s0, .nil⟩ (fun i σ H' ⟨_, _, _, _, _, _, _, s', _⟩ => SqL.of (s' _ _ ha)) ?_ ?_⟩⟩
    · rintro i x σ H' hi hx ⟨u, x3, x4, q', acc, l', rfl, s', hacc, ea, hu, hs⟩
      rw [lw] at hi hx
      obtain ⟨st, hst, hsv⟩ := pr_get hws hx
      have en : l.length - (i + 1) = l.length - 1 - i := by omega
      have ed : l.drop (l.length - (i + 1)) = st :: l.drop (l.length - i) := by
        have h0 := (List.getElem?_eq_some_iff.mp hst).2
        rw [en, List.drop_eq_getElem_cons (show l.length - 1 - i < l.length by omega), h0, show l.length - 1 - i + 1 = l.length - i from by omega]
      have hl' := ahead_len ea
      rw [List.length_drop] at hl'
      refine ⟨_, rfl, _, rfl, x, u, st, q', rfl, hsv.same s', hu, trivial, fun r H2 s2 g2 => ?_⟩
      cases ec : VapatBase.commuted st q' with
      | none =>
        rw [ec] at g2
        cases (show r = .non from g2)
        refine ⟨_, rfl, rfl, _, rfl, ite2 (fun _ => ?_) (fun c => absurd (decide_eq_true rfl) c)⟩
        exact fin _ _ (s'.trans s2) (by rw [ahead_err l q (l.length - (i + 1)) (by rw [ed]; exact ahead_no ea ec)]; rfl)
      | some r2 =>
        rw [ec] at g2
        obtain ⟨b, y1, y2, rfl, hb, h1, h2⟩ := g2
        have hacc2 := s2 _ _ hacc
        have la := pr_len hs
        rw [List.length_reverse] at la
        refine ⟨_, rfl, rfl, _, rfl, ite2 (fun c => (isN_no rfl c).elim) (fun _ => ?_)⟩
        refine ⟨_, rfl, b, _, _, y1, rfl, rfl, SqT.of hb, rfl, ?_⟩
        refine ⟨_, rfl, .inl ⟨rfl, _, SqL.of hacc2⟩, _, rfl, b, _, _, y2, rfl, rfl, SqT.of hb, rfl, p, acc, y2, rfl, rfl, hacc2, by rw [la]; exact Nat.lt_of_le_of_lt (show _ ≤ 1000 by omega) (by decide), ?_⟩
        refine ⟨y1, some x, some (V.ref b), r2.1, acc ++ [y2], r2.2 :: l', rfl, same_mut (s'.trans s2) hp, upd_same, (by rw [ed]; exact ahead_yes ea ec), StepV.upd h1 hacc2, ?_⟩
        rw [List.reverse_cons]
        exact pr_app ((hs.same s2).upd hacc2) (.cons (StepV.upd h2 hacc2) .nil)
    · rintro σ H' ⟨u, x3, x4, q', acc, l', rfl, s', hacc, ea, hu, hs⟩
      rw [lw, Nat.sub_self] at ea
      have ea : aheadOf l q = .ok (q', l') := ea
      rw [ea] at fin
      refine ⟨_, rfl, _, rfl, p, acc, rfl, SqL.of hacc, fun c hc => ?_⟩
      have s3 := same_new (o := .lst acc.reverse) hc
      refine ⟨by show 2 ≤ sizeLine; decide, fun d hd => ?_⟩
      have s4 := same_new (o := .tup [u, V.ref c]) hd
      have hr := pr_rev hs
      rw [List.reverse_reverse] at hr
      exact fin _ _ ((s'.trans s3).trans s4) ⟨d, u, .ref c, rfl, upd_same, (hu.same s3).same s4, c, acc.reverse, rfl, none_of s' hc, s4 _ _ upd_same, StepsV.same s4 (StepsV.same s3 hr)⟩
end
end Rw
end
section
set_option Elab.async false
set_option linter.all false
set_option maxRecDepth 100000
set_option maxHeartbeats 4000000
namespace Rw
open PySem PySem.Spec PyProof.Rows L2
open VapatBase (fileIn putFile dropFile namesOf flatStep inFile swapAll turnedAll)
open Vapatb (aheadOf rowsCommuted)
theorem rc_stop {l m m1 l1 : List PStep} {i : Nat} {q : PStep} (h : rowsCommuted l (m.take i) = some (m1, l1)) (hq : m[i]? = some q) (e : okOf (aheadOf l1 q) = none) : rowsCommuted l m = none := by
  have : m = m.take (i + 1) ++ m.drop (i + 1) := (List.take_append_drop _ _).symm
  rw [this, rc_app, take_more hq, rc_app, h]
  simp [rc_one, e]
theorem rc_go {l m m1 l1 : List PStep} {i : Nat} {q : PStep} {r : PStep × List PStep} (h : rowsCommuted l (m.take i) = some (m1, l1)) (hq : m[i]? = some q) (e : okOf (aheadOf l1 q) = some r) : rowsCommuted l (m.take (i + 1)) = some (m1 ++ [r.1], r.2) := by
  rw [take_more hq, rc_app, h]
  simp [rc_one, e]
/-- a row in a list that isn't p's -/
def RowB (K : PySem.W.Frag) (p : Addr) (H : Hp) (v : V) (l : List PStep) : Prop := ∃ a vs, v = .ref a ∧ a ≠ p ∧ H a = some (.lst vs) ∧ StepsV K H vs l
theorem RowB.row {K : PySem.W.Frag} {p : Addr} {H : Hp} {v : V} {l : List PStep} (h : RowB K p H v l) : RowV K H v l := by
  obtain ⟨a, vs, e, _, h1, h2⟩ := h
  exact ⟨a, vs, e, h1, h2⟩
theorem RowV.beside {K : PySem.W.Frag} {p : Addr} {H : Hp} {v : V} {l : List PStep} (h : RowV K H v l) (hp : H p = none) : RowB K p H v l := by
  obtain ⟨a, vs, e, h1, h2⟩ := h
  exact ⟨a, vs, e, ne_of_none h1 hp, h1, h2⟩
theorem RowB.same {K : PySem.W.Frag} {p : Addr} {H H' : Hp} {v : V} {l : List PStep} (h : RowB K p H v l) (s : Same H H') : RowB K p H' v l := by
  obtain ⟨a, vs, e, n, h1, h2⟩ := h
  exact ⟨a, vs, e, n, s _ _ h1, StepsV.same s h2⟩
theorem RowB.upd {K : PySem.W.Frag} {p : Addr} {H : Hp} {v : V} {l : List PStep} {xs : List V} {o : HO} (h : RowB K p H v l) (hp : H p = some (.lst xs)) : RowB K p (L2.upd H p o) v l := by
  obtain ⟨a, vs, e, n, h1, h2⟩ := h
  exact ⟨a, vs, e, n, by rw [upd_ne n]; exact h1, StepsV.upd h2 hp⟩
section
variable {K : PySem.W.Frag} {mg : Str → Option Value}
def spRows (K : PySem.W.Frag) (g : List PStep → List PStep → Option (List PStep × List PStep)) : Sp := fun vs H Q _ => ∃ v w l m, vs = [v, w] ∧ RowV K H v l ∧ l.length ≤ 1000 ∧ RowV K H w m ∧ m.length ≤ 1000 ∧ ∀ r H', Same H H' → OptV (BothV (RowV K) (RowV K) H') r (g l m) → Q r H'
theorem ok_row_brought_ahead (T : Tx K mg) : Ok K mg 8 ("row_brought_ahead", none) ["row", "other"] (spRows K rowsCommuted) := by
  refine mk_ok T e_row_brought_ahead rfl rfl sc_row_brought_ahead (fun _ _ _ _ _ _ us hl => match us, hl with | [_, _], _ => rfl) (fun vs H Q E h => ?_) (fun P w base f cdv A outer s H vs Q E hr h => ?_)
  · obtain ⟨v, w, l, m, rfl, _⟩ := h; rfl
  · obtain ⟨v, w, l, m, rfl, hv, hl, ⟨a, ws, rfl, ha, hws⟩, hm, fin⟩ := h
    refine ⟨_, (pss_cons (ps_set (i := 2) sc_row_brought_ahead.nd rfl (Or.inl rfl) (pe_lst pa_nil)) (pss_cons (ps_for PassesOwn.never rfl (pi_list (pv 1)) (pg_name (i := 3) sc_row_brought_ahead.nd rfl (Or.inl rfl)) (pss_cons (ps_set (i := 4) sc_row_brought_ahead.nd rfl (Or.inl rfl) (pe_f (ok_step_brought_ahead T) (g_step_brought_ahead T) (hr.mono (by decide)) (pa_cons (pv 0) (pa_cons (pv 3) pa_nil)))) (pss_cons (ps_if (pt_cmpR op_isN (pv 4) pe_non (nomark _)) (pss_one (ps_ret pe_non)) pss_nil) (pss_cons (ps_expr (pe_bm PySem.F.plainAttrs_list PySem.F.slot_list_append PySem.F.type_list_append mt_append (pv 2) (pa_cons (pe_ix ix_tup (pv 4) pe_int (fun _ _ => rfl)) pa_nil))) (pss_one (ps_set (i := 0) sc_row_brought_ahead.nd rfl (Or.inl rfl) (pe_ix ix_tup (pv 4) pe_int (fun _ _ => rfl)))))))) (pss_one (ps_ret (pe_tup (pa_cons (pv 2) (pa_cons (pv 0) pa_nil))))))), ?_⟩
    have lw := pr_len hws
    refine ⟨by show 0 ≤ sizeLine; decide, fun p hp => ?_⟩
    have s0 := same_new (o := .lst []) hp
    refine ⟨_, rfl, a, rfl, ⟨_, SqL.of (s0 _ _ ha)⟩, for_list (K := K) (a := a) (xs := ws) (fun i σ H' => ∃ u x3 x4 l' acc m', σ = [some u, some (V.ref a), some (V.ref p), x3, x4] ∧ Same H H' ∧ H' p = some (.lst acc) ∧ rowsCommuted l (m.take i) = some (m', l') ∧ RowB K p H' u l' ∧ StepsV K H' acc m')
      ⟨v, none, none, l, [], [], rfl, s0, upd_same, rc_nil l, (hv.beside hp).same s0, .nil⟩ (fun i σ H' _ ⟨_, _, _, _, _, _, _, s', _⟩ => SqL.of (s' _ _ ha)) ?_ ?_⟩
    · rintro i x σ H' hx ⟨u, x3, x4, l', acc, m', rfl, s', hacc, ea, hu, hs⟩
      obtain ⟨st, hst, hsv⟩ := pr_get hws hx
      have hi : i < m.length := (List.getElem?_eq_some_iff.mp hst).1
      have hl' := rc_len ea
      rw [List.length_take] at hl'
      refine ⟨_, rfl, _, rfl, u, x, l', st, rfl, hu.row, by omega, hsv.same s', fun r H2 s2 g2 => ?_⟩
      cases ec : okOf (aheadOf l' st) with
      | none =>
        rw [ec] at g2
        cases (show r = .non from g2)
        refine ⟨_, rfl, rfl, _, rfl, ite2 (fun _ => ?_) (fun c => absurd (decide_eq_true rfl) c)⟩
        exact fin _ _ (s'.trans s2) (by rw [rc_stop ea hst ec]; rfl)
      | some r2 =>
        rw [ec] at g2
        obtain ⟨b, y1, y2, rfl, hb, h1, h2⟩ := g2
        have hacc2 := s2 _ _ hacc
        have la := pr_len hs
        refine ⟨_, rfl, rfl, _, rfl, ite2 (fun c => (isN_no rfl c).elim) (fun _ => ?_)⟩
        refine ⟨_, rfl, .inl ⟨rfl, _, SqL.of hacc2⟩, _, rfl, b, _, _, y1, rfl, rfl, SqT.of hb, rfl, p, acc, y1, rfl, rfl, hacc2, by rw [la]; exact Nat.lt_of_le_of_lt (show _ ≤ 1000 by omega) (by decide), ?_⟩
        obtain ⟨c, vs2, rfl, hn, hc, hs2⟩ := h2
        have nc : c ≠ p := fun z => by rw [z, hacc] at hn; cases hn
        have hb2 : upd H2 p (.lst (acc ++ [y1])) b = some (.tup [y1, V.ref c]) := by
          rw [upd_ne (ne_of hb hacc2 (fun z => by cases z))]
          exact hb
        refine ⟨_, rfl, b, _, _, .ref c, rfl, rfl, SqT.of hb2, rfl, ?_⟩
        refine ⟨.ref c, some x, some (V.ref b), r2.2, acc ++ [y1], m' ++ [r2.1], rfl, same_mut (s'.trans s2) hp, upd_same, rc_go ea hst ec, RowB.upd ⟨c, vs2, rfl, nc, hc, hs2⟩ hacc2, ?_⟩
        exact pr_app (StepsV.upd (StepsV.same s2 hs) hacc2) (.cons (StepV.upd h1 hacc2) .nil)
    · rintro σ H' ⟨u, x3, x4, l', acc, m', rfl, s', hacc, ea, hu, hs⟩
      rw [lw, List.take_length] at ea
      rw [ea] at fin
      refine ⟨_, rfl, _, rfl, ?_⟩
      refine ⟨by show 2 ≤ sizeLine; decide, fun d hd => ?_⟩
      have s4 := same_new (o := .tup [V.ref p, u]) hd
      exact fin _ _ (s'.trans s4) ⟨d, .ref p, u, rfl, upd_same, ⟨p, acc, rfl, s4 _ _ hacc, StepsV.same s4 hs⟩, hu.row.same s4⟩
theorem ok_merged (T : Tx K mg) : Ok K mg 9 ("merged", none) ["row", "other"] (spRows K Vapatd.rowsMerged) := by
  refine mk_ok T e_merged rfl rfl sc_merged (fun _ _ _ _ _ _ us hl => match us, hl with | [_, _], _ => rfl) (fun vs H Q E h => ?_) (fun P w base f cdv A outer s H vs Q E hr h => ?_)
  · obtain ⟨v, w, l, m, rfl, _⟩ := h; rfl
  · obtain ⟨v, w, l, m, rfl, hv, hl, hw, hm, fin⟩ := h
    refine ⟨_, (pss_cons (ps_set (i := 2) sc_merged.nd rfl (Or.inl rfl) (pe_f (ok_row_brought_ahead T) (g_row_brought_ahead T) (hr.mono (by decide)) (pa_cons (pe_f (ok_row_turned T) (g_row_turned T) (hr.mono (by decide)) (pa_cons (pv 0) pa_nil)) (pa_cons (pv 1) pa_nil)))) (pss_cons (ps_if (pt_cmpR op_isN (pv 2) pe_non (nomark _)) (pss_one (ps_ret pe_non)) pss_nil) (pss_one (ps_ret (pe_tup (pa_cons (pe_ix ix_tup (pv 2) pe_int (fun _ _ => rfl)) (pa_cons (pe_f (ok_row_turned T) (g_row_turned T) (hr.mono (by decide)) (pa_cons (pe_ix ix_tup (pv 2) pe_int (fun _ _ => rfl)) pa_nil)) pa_nil))))))), ?_⟩
    unfold Vapatd.rowsMerged at fin
    refine ⟨_, rfl, v, l, rfl, hv, hl, fun r1 H1 s1 g1 => ?_⟩
    have hlt : (turnedAll l).length = l.length := by simp [turnedAll]
    refine ⟨_, rfl, r1, w, _, m, rfl, g1, by rw [hlt]; exact hl, hw.same s1, hm, fun r2 H2 s2 g2 => ?_⟩
    cases ec : rowsCommuted (turnedAll l) m with
    | none =>
      rw [ec] at g2 fin
      cases (show r2 = .non from g2)
      refine ⟨_, rfl, rfl, _, rfl, ite2 (fun _ => ?_) (fun c => absurd (decide_eq_true rfl) c)⟩
      exact fin _ _ (s1.trans s2) rfl
    | some r =>
      rw [ec] at g2 fin
      obtain ⟨b, y1, y2, rfl, hb, h1, h2⟩ := g2
      have hr := rc_len (l1 := r.2) (m1 := r.1) ec
      refine ⟨_, rfl, rfl, _, rfl, ite2 (fun c => (isN_no rfl c).elim) (fun _ => ?_)⟩
      refine ⟨_, rfl, b, _, _, y1, rfl, rfl, SqT.of hb, rfl, _, rfl, b, _, _, y2, rfl, rfl, SqT.of hb, rfl, y2, r.2, rfl, h2, by omega, fun r3 H3 s3 g3 => ?_⟩
      refine ⟨by show 2 ≤ sizeLine; decide, fun d hd => ?_⟩
      have s4 := same_new (o := .tup [y1, r3]) hd
      exact fin _ _ (((s1.trans s2).trans s3).trans s4) ⟨d, y1, r3, rfl, upd_same, (h1.same s3).same s4, g3.same s4⟩
end
end Rw
end
section
set_option Elab.async false
set_option linter.all false
set_option maxRecDepth 100000
set_option maxHeartbeats 4000000
namespace Rw
open PySem PySem.Spec PyProof.Rows L2
open VapatBase (fileIn putFile dropFile namesOf flatStep inFile swapAll turnedAll appliedAll)
section
variable {K : PySem.W.Frag} {mg : Str → Option Value}
theorem any_applied (T : Tx K mg) : ∀ k, k < 5 → MOk K mg 3 (He.ga K (cN k)) "applied" (spApplied K k)
  | 0, _ => m_ok (c_Hunk T) (m_Hunk_applied T) (ok_Hunk_applied T)
  | 1, _ => m_ok (c_Swap T) (m_Swap_applied T) (ok_Swap_applied T)
  | 2, _ => m_ok (c_Added T) (m_Added_applied T) (ok_Added_applied T)
  | 3, _ => m_ok (c_Removed T) (m_Removed_applied T) (ok_Removed_applied T)
  | 4, _ => m_ok (c_Moved T) (m_Moved_applied T) (ok_Moved_applied T)
  | n + 5, h => absurd h (by omega)
theorem any_fits (T : Tx K mg) : ∀ k, k < 5 → MOk K mg 1 (He.ga K (cN k)) "fits" (sp2 K k Atree Rfits)
  | 0, _ => m_ok (c_Hunk T) (m_Hunk_fits T) (ok_Hunk_fits T)
  | 1, _ => m_ok (c_Swap T) (m_Swap_fits T) (ok_Swap_fits T)
  | 2, _ => m_ok (c_Added T) (m_Added_fits T) (ok_Added_fits T)
  | 3, _ => m_ok (c_Removed T) (m_Removed_fits T) (ok_Removed_fits T)
  | 4, _ => m_ok (c_Moved T) (m_Moved_fits T) (ok_Moved_fits T)
  | n + 5, h => absurd h (by omega)
theorem rd_applied (T : Tx K mg) {v w : V} {p : PStep} {H : Hp} {Q : VK} {t u : VapatBase.Tree} {m : Nat} (h : StepV K H v p) (ht : wfT m t) (hm : m ≤ 100000) (hw : TreeV H w t) (hu : VapatBase.applied t p = some u)
    (q : ∀ r H', Same H H' → TreeV H' r u → Q r H') : ∃ (C a dx : Addr) (fs : List (Str × V)) (sp : Sp), MOk K mg 3 C "applied" sp ∧ v = .ref a ∧ H a = some (.ins C dx fs) ∧ fs.lookup ("applied" : Str) = none ∧ sp [v, w] H Q E0 := by
  obtain ⟨a, dx, fs, e, h1, h2⟩ := h.ins
  exact ⟨_, a, dx, fs, _, any_applied T _ (kd_lt p), e, h1, h2 _ (by decide +kernel), v, p, w, t, m, u, rfl, h, rfl, ht, hm, hw, hu, q⟩
theorem rd_fits (T : Tx K mg) {v w : V} {p : PStep} {H : Hp} {Q : VK} {x : _} (h : StepV K H v p) (hw : Atree x w H)
    (q : ∀ r H', Same H H' → Rfits p x r H' → Q r H') : ∃ (C a dx : Addr) (fs : List (Str × V)) (sp : Sp), MOk K mg 1 C "fits" sp ∧ v = .ref a ∧ H a = some (.ins C dx fs) ∧ fs.lookup ("fits" : Str) = none ∧ sp [v, w] H Q E0 := by
  obtain ⟨a, dx, fs, e, h1, h2⟩ := h.ins
  exact ⟨_, a, dx, fs, _, any_fits T _ (kd_lt p), e, h1, h2 _ (by decide +kernel), v, p, w, x, rfl, h, rfl, hw, q⟩
theorem all_wf {m : Nat} : ∀ {l : List PStep} {t u : VapatBase.Tree}, wfT m t → (∀ p ∈ l, wf p) → appliedAll t l = some u → wfT (m + 8 * l.length) u
  | [], t, u, ht, _, h => by cases h; exact ht
  | p :: l, t, u, ht, hl, h => by
    obtain ⟨v, h1, h2⟩ := (all_cons _ _ _ _).mp h
    have := all_wf (m := m + 8) (wf.apply ht (hl p List.mem_cons_self) h1) (fun q hq => hl q (List.mem_cons_of_mem _ hq)) h2
    exact this.mono (by rw [List.length_cons]; omega)
def spAfter (K : PySem.W.Frag) : Sp := fun vs H Q _ => ∃ v w t l m u, vs = [v, w] ∧ TreeV H v t ∧ RowV K H w l ∧ wfT m t ∧ m + 8 * l.length ≤ 100000 ∧ appliedAll t l = some u ∧ ∀ r H', Same H H' → TreeV H' r u → Q r H'
theorem ok_tree_after (T : Tx K mg) : Ok K mg 5 ("tree_after", none) ["tree", "row"] (spAfter K) := by
  refine mk_ok T e_tree_after rfl rfl sc_tree_after (fun _ _ _ _ _ _ us hl => match us, hl with | [_, _], _ => rfl) (fun vs H Q E h => ?_) (fun P w base f cdv A outer s H vs Q E hr h => ?_)
  · obtain ⟨v, w, t, l, m, u, rfl, _⟩ := h; rfl
  · obtain ⟨v, w, t, l, m, u, rfl, hv, ⟨a, ws, rfl, ha, hws⟩, ht, hm, hu, fin⟩ := h
    refine ⟨_, (pss_cons (ps_for PassesOwn.never rfl (pi_list (pv 1)) (pg_name (i := 2) sc_tree_after.nd rfl (Or.inl rfl)) (pss_one (ps_set (i := 0) sc_tree_after.nd rfl (Or.inl rfl) (pe_mp (k := 3) (pv 2) (hr.mono (by decide)) (pa_cons (pv 0) pa_nil))))) (pss_one (ps_ret (pv 0)))), ?_⟩
    have lw := pr_len hws
    refine ⟨_, rfl, a, rfl, ⟨_, SqL.of ha⟩, for_list (K := K) (a := a) (xs := ws) (fun i σ H' => ∃ z x2 t2, σ = [some z, some (V.ref a), x2] ∧ Same H H' ∧ appliedAll t (l.take i) = some t2 ∧ TreeV H' z t2)
      ⟨v, none, t, rfl, Same.refl _, rfl, hv⟩ (fun i σ H' _ ⟨_, _, _, _, s', _⟩ => SqL.of (s' _ _ ha)) ?_ ?_⟩
    · rintro i x σ H' hx ⟨z, x2, t2, rfl, s', e2, hz⟩
      obtain ⟨st, hst, hsv⟩ := pr_get hws hx
      have hi : i < l.length := (List.getElem?_eq_some_iff.mp hst).1
      have hsplit : appliedAll t (l.take i ++ l.drop i) = some u := by rw [List.take_append_drop]; exact hu
      obtain ⟨t3, h1, h2⟩ := (all_append _ _ _ _).mp hsplit
      rw [e2] at h1
      cases h1
      rw [drop_at hst] at h2
      obtain ⟨t4, h3, h4⟩ := (all_cons _ _ _ _).mp h2
      have hm : ∀ z ∈ l.take i, wf z := fun z hz => hws.wf_all z (List.mem_of_mem_take hz)
      have w2 := all_wf ht hm e2
      rw [List.length_take] at w2
      have e4 : appliedAll t (l.take (i + 1)) = some t4 := by
        rw [take_more hst]
        exact (all_append _ _ _ _).mpr ⟨t2, e2, (all_cons _ _ _ _).mpr ⟨t4, h3, rfl⟩⟩
      obtain ⟨C, b, dx, fs, sp, mo, e, g1, g2, g3⟩ := rd_applied T (Q := fun r H2 => ∃ z x2 t2, [some r, some (V.ref a), some x] = [some z, some (V.ref a), x2] ∧ Same H H2 ∧ appliedAll t (l.take (i + 1)) = some t2 ∧ TreeV H2 z t2) (hsv.same s') w2 (by omega) hz h3 fun r H2 s2 g2 => ⟨r, some x, t4, rfl, s'.trans s2, e4, g2⟩
      exact ⟨_, rfl, C, b, dx, fs, sp, mo, e, g1, g2, _, rfl, g3⟩
    · rintro σ H' ⟨z, x2, t2, rfl, s', e2, hz⟩
      rw [lw, List.take_length, hu] at e2
      cases e2
      exact ⟨_, rfl, fin _ _ s' hz⟩
end
end Rw
end
section
set_option Elab.async false
set_option linter.all false
set_option maxRecDepth 100000
set_option maxHeartbeats 4000000
namespace Rw
open PySem PySem.Spec PyProof.Rows L2
open VapatBase (fileIn putFile dropFile namesOf flatStep inFile swapAll turnedAll appliedAll flatTree)
/-! ### a tree's names, sorted -/
theorem perm_rise : ∀ {ys zs : List Int}, ys.Perm zs → ys.Pairwise (· ≤ ·) → zs.Pairwise (· < ·) → ys = zs
  | [], [], _, _, _ => rfl
  | [], _ :: _, h, _, _ => by have := h.length_eq; simp at this
  | _ :: _, [], h, _, _ => by have := h.length_eq; simp at this
  | y :: ys, z :: zs, h, hy, hz => by
    have h1 : y ∈ z :: zs := h.mem_iff.mp List.mem_cons_self
    have h2 : z ∈ y :: ys := h.mem_iff.mpr List.mem_cons_self
    have k1 : z ≤ y := by
      rcases List.mem_cons.mp h1 with e | e
      · omega
      · have := (List.pairwise_cons.mp hz).1 y e; omega
    have k2 : y ≤ z := by
      rcases List.mem_cons.mp h2 with e | e
      · omega
      · exact (List.pairwise_cons.mp hy).1 z e
    have e : y = z := by omega
    subst e
    rw [perm_rise ((List.perm_cons y).mp h) (List.pairwise_cons.mp hy).2 (List.pairwise_cons.mp hz).2]
def keyZ : Key → Int
  | Sum.inl z => z
  | Sum.inr _ => 0
theorem keys_int {kvs : List (Key × V)} {t : VapatBase.Tree} (hp : (kvs.map (·.1)).Perm (t.map nameK)) : kvs.map (·.1) = ((kvs.map (·.1)).map keyZ).map Sum.inl ∧ ((kvs.map (·.1)).map keyZ).Perm (t.map fun x => (x.1 : Int)) := by
  constructor
  · have : ∀ k ∈ kvs.map (·.1), (Sum.inl (keyZ k) : Key) = k := fun k hk => by
      obtain ⟨x, _, e⟩ := List.mem_map.mp (hp.mem_iff.mp hk)
      rw [← e]
      rfl
    rw [List.map_map]
    conv => lhs; rw [← List.map_id (kvs.map (·.1))]
    exact List.map_congr_left fun k hk => (this k hk).symm
  · have e : t.map (fun x => (x.1 : Int)) = (t.map nameK).map keyZ := by rw [List.map_map]; rfl
    rw [e]
    exact hp.map keyZ
theorem names_rise {t : VapatBase.Tree} (h : Rise t) : (t.map fun x => (x.1 : Int)).Pairwise (· < ·) := by
  rw [List.pairwise_map]
  exact h.imp fun {a b} z => by omega
section
variable {K : PySem.W.Frag} {mg : Str → Option Value}
def tellFile (x : Nat × List Nat) : List Int := (x.1 : Int) :: VapatBase.listed x.2
theorem tell_len {m : Nat} : ∀ {t : VapatBase.Tree}, (∀ x ∈ t, x.2.length ≤ m) → (t.flatMap tellFile).length ≤ (m + 2) * t.length
  | [], _ => Nat.zero_le _
  | x :: t, h => by
    have h1 := h x List.mem_cons_self
    have h2 := tell_len (t := t) fun y hy => h y (List.mem_cons_of_mem _ hy)
    rw [List.flatMap_cons, List.length_append, List.length_cons, Nat.mul_succ]
    have : (tellFile x).length = x.2.length + 2 := by simp [tellFile, VapatBase.listed, VapatBase.ints]
    omega
def spTreeTold (K : PySem.W.Frag) : Sp := fun vs H Q _ => ∃ v t m, vs = [v] ∧ TreeV H v t ∧ wfT m t ∧ m ≤ 100000 ∧ ∀ r H', Same H H' → IntsN H H' r (flatTree t) → Q r H'
theorem ok_tree_told (T : Tx K mg) : Ok K mg 1 ("tree_told", none) ["tree"] (spTreeTold K) := by
  refine mk_ok T e_tree_told rfl rfl sc_tree_told (fun _ _ _ _ _ _ us hl => match us, hl with | [_], _ => rfl) (fun vs H Q E h => ?_) (fun P w base f cdv A outer s H vs Q E hr h => ?_)
  · obtain ⟨v, t, m, rfl, _⟩ := h; rfl
  · obtain ⟨v, t, m, rfl, hT, ht, hm, fin⟩ := h
    obtain ⟨d, kvs, rfl, hd, hp, hv⟩ := id hT
    refine ⟨_, (pss_cons (ps_set (i := 1) sc_tree_told.nd rfl (Or.inl rfl) (pe_lst (pa_cons (pe_callB call_lenD (by rfl) (z_len T) (by decide +kernel) (pa_cons (pv 0) pa_nil)) pa_nil))) (pss_cons (ps_for PassesOwn.never rfl (pi_list (pe_callB (call_sortedDI rfl) (by rfl) (z_sorted T) (by decide +kernel) (pa_cons (pv 0) pa_nil))) (pg_name (i := 2) sc_tree_told.nd rfl (Or.inl rfl)) (pss_cons (ps_expr (pe_bm PySem.F.plainAttrs_list PySem.F.slot_list_append PySem.F.type_list_append mt_append (pv 1) (pa_cons (pv 2) pa_nil))) (pss_cons (ps_expr (pe_bm PySem.F.plainAttrs_list PySem.F.slot_list_append PySem.F.type_list_append mt_append (pv 1) (pa_cons (pe_callB call_len_seq (by rfl) (z_len T) (by decide +kernel) (pa_cons (pe_dget (hu_of hr) (pv 0) (pv 2) (fun _ _ => rfl)) pa_nil)) pa_nil))) (pss_one (ps_expr (pe_bm PySem.F.plainAttrs_list PySem.F.slot_list_extend PySem.F.type_list_extend mt_extendT (pv 1) (pa_cons (pe_dget (hu_of hr) (pv 0) (pv 2) (fun _ _ => rfl)) pa_nil))))))) (pss_one (ps_ret (pv 1))))), ?_⟩
    have hl := ht.len
    have lk : kvs.length = t.length := by have := hp.length_eq; simpa using this
    obtain ⟨k1, k2⟩ := keys_int hp
    refine ⟨_, rfl, d, kvs, rfl, hd, by show 1 ≤ sizeLine; decide, fun p hp0 => ?_⟩
    have s0 := same_new (o := .lst [V.int (kvs.length : Int)]) hp0
    refine ⟨_, rfl, d, kvs, _, rfl, .inl (s0 _ _ hd), k1, by rw [List.length_map, List.length_map]; omega, fun ys b h1 h2 hb => ?_⟩
    have ey : ys = t.map fun x => (x.1 : Int) := perm_rise (h1.trans k2) h2 (names_rise ht.1)
    subst ey
    have s1 := same_new (o := .lst ((t.map fun x => (x.1 : Int)).map V.int)) hb
    refine ⟨b, rfl, ⟨_, SqL.of upd_same⟩, for_list (K := K) (a := b) (xs := (t.map fun x => (x.1 : Int)).map V.int) (fun i σ H' => ∃ x2, σ = [some (V.ref d), some (V.ref p), x2] ∧ Same H H' ∧ H' b = some (.lst ((t.map fun x => (x.1 : Int)).map V.int)) ∧ H' p = some (.lst (((t.length : Int) :: (t.take i).flatMap tellFile).map V.int)))
      ⟨none, rfl, s0.trans s1, upd_same, by rw [s1 _ _ upd_same, lk]; rfl⟩ (fun i σ H' _ ⟨_, _, _, hb, _⟩ => SqL.of hb) ?_ ?_⟩
    · rintro i x σ H' hx ⟨x2, rfl, s', hb', hp'⟩
      have hbp : b ≠ p := fun z => by rw [z] at hb; rw [upd_same] at hb; cases hb
      rw [List.map_map, List.getElem?_map] at hx
      cases hti : t[i]? with
      | none => rw [hti] at hx; cases hx
      | some fc =>
        obtain ⟨f, c⟩ := fc
        rw [hti] at hx
        cases hx
        have hmem : (f, c) ∈ t := List.mem_of_getElem? hti
        have hf := fileIn_of_mem ht.1 hmem
        obtain ⟨pc, h1, h2⟩ := tree_get hv hf
        have hc : c.length ≤ m := (ht.2 _ hmem).2
        have hi : i < t.length := (List.getElem?_eq_some_iff.mp hti).1
        have tl := tell_len (m := m) (t := t.take i) fun y hy => (ht.2 y (List.mem_of_mem_take hy)).2
        have tl2 : (m + 2) * (t.take i).length ≤ (m + 2) * 10 := Nat.mul_le_mul_left _ (by rw [List.length_take]; omega)
        have hlen : (((t.length : Int) :: (t.take i).flatMap tellFile).map V.int).length ≤ 1100000 := by
          rw [List.length_map, List.length_cons]
          omega
        have hdp : d ≠ p := ne_of_none hd hp0
        have hpc : pc ≠ p := ne_of_none h2 hp0
        refine ⟨_, rfl, .inl ⟨rfl, _, SqL.of hp'⟩, _, rfl, p, _, _, rfl, rfl, hp', Nat.lt_of_le_of_lt hlen (by decide), ?_⟩
        have n1 : ∀ {o : HO} {q : Addr} {u : HO}, q ≠ p → H' q = some u → upd H' p o q = some u := fun n e => by rw [upd_ne n]; exact e
        refine ⟨_, rfl, .inl ⟨rfl, _, SqL.of upd_same⟩, _, rfl, _, rfl, d, _, rfl, get_at (n1 hdp (s' _ _ hd)) h1, pc, _, rfl, .inr (SqT.of (n1 hpc (s' _ _ h2))), p, _, _, rfl, rfl, upd_same, ?_, ?_⟩
        · rw [List.length_append]
          exact Nat.lt_of_le_of_lt (Nat.add_le_add_right hlen _) (by show 1100000 + 1 < sizeLine; decide)
        have n2 : ∀ {o o2 : HO} {q : Addr} {u : HO}, q ≠ p → H' q = some u → upd (upd H' p o) p o2 q = some u := fun n e => by rw [upd_ne n, upd_ne n]; exact e
        refine ⟨_, rfl, .inl ⟨rfl, _, SqL.of upd_same⟩, _, rfl, _, rfl, d, _, rfl, get_at (n2 hdp (s' _ _ hd)) h1, p, pc, _, _, rfl, rfl, upd_same, n2 hpc (s' _ _ h2), ?_, ?_⟩
        · rw [List.length_append, List.length_append]
          exact Nat.le_trans (Nat.add_le_add (Nat.add_le_add_right (Nat.add_le_add_right hlen _) _) (show _ ≤ 100000 by rw [List.length_map]; omega)) (by show 1100000 + 1 + 1 + 100000 ≤ sizeLine; decide)
        refine ⟨some (V.int (f : Int)), rfl, ?_, ?_, ?_⟩
        · exact same_mut (H' := upd (upd H' p _) p _) (same_mut (H' := upd H' p _) (same_mut s' hp0) hp0) hp0
        · rw [upd_ne hbp, upd_ne hbp, upd_ne hbp]
          exact hb'
        · rw [upd_same, take_more hti, List.flatMap_append]
          simp [tellFile, VapatBase.listed, VapatBase.ints, VapatBase.int, toks]
    · rintro σ H' ⟨x2, rfl, s', hb', hp'⟩
      rw [List.length_map, List.length_map, List.take_length] at hp'
      exact ⟨_, rfl, fin _ _ s' ⟨p, rfl, hp0, hp'⟩⟩
end
end Rw
end
section
set_option Elab.async false
set_option linter.all false
set_option maxRecDepth 100000
set_option maxHeartbeats 4000000
namespace Rw
open PySem PySem.Spec PyProof.Rows L2
open VapatBase (fileIn putFile dropFile namesOf flatStep inFile swapAll turnedAll appliedAll flatTree)
theorem put_last (f : Nat) (c : List Nat) : ∀ {t : VapatBase.Tree}, (∀ x ∈ t, x.1 < f) → putFile f c t = t ++ [(f, c)]
  | [], _ => rfl
  | x :: t, h => by
    have h1 := h x List.mem_cons_self
    rw [putFile, if_neg (by omega), if_neg (by omega), put_last f c (t := t) fun y hy => h y (List.mem_cons_of_mem _ hy)]
    rfl
theorem natAt_is {ns : List Int} {i lo hi f : Nat} (h : ns[i]? = some (f : Int)) (k : (lo : Int) ≤ (f : Int) ∧ (f : Int) ≤ (hi : Int)) : natAt ns i lo hi = some f := by
  rw [natAt_yes h k]
  rfl
theorem TupV.upd {H : Hp} {v : V} {l : List Nat} {p : Addr} {kvs : List (Key × V)} {o : HO} (h : TupV H v l) (hp : H p = some (.dK kvs)) : TupV (L2.upd H p o) v l := by
  obtain ⟨q, e, hq⟩ := h
  refine ⟨q, e, ?_⟩
  rw [upd_ne (fun z => by rw [z, hp] at hq; cases hq)]
  exact hq
section
variable {K : PySem.W.Frag} {mg : Str → Option Value}
def spTreeOf (K : PySem.W.Frag) : Sp := fun vs H Q _ => ∃ a ns, vs = [.ref a] ∧ SqL K H a (ns.map V.int) ∧ ns.length < sizeLine ∧ ∀ r H', Same H H' → OptV (TreeV H') r (treeOf ns) → Q r H'
theorem ok_tree_of (T : Tx K mg) : Ok K mg 3 ("tree_of", none) ["numbers"] (spTreeOf K) := by
  refine mk_ok T e_tree_of rfl rfl sc_tree_of (fun _ _ _ _ _ _ us hl => match us, hl with | [_], _ => rfl) (fun vs H Q E h => ?_) (fun P w base f cdv A outer s H vs Q E hr h => ?_)
  · obtain ⟨a, ns, rfl, _⟩ := h; rfl
  · obtain ⟨a, ns, rfl, hS, hlen, fin⟩ := h
    refine ⟨_, (pss_cons (ps_if (PW.pt (pw_or (pt_cmpR op_eq (pe_callB call_len_seq (by rfl) (z_len T) (by decide +kernel) (pa_cons (pv 0) pa_nil)) pe_int (nomark _)) (pw_or1 (pt_not (pt_chain op_le op_le pe_int (pe_ix ix_list (pv 0) pe_int (fun _ _ => rfl)) (pe_gint (i_MOST_FILES T))))))) (pss_one (ps_ret pe_non)) pss_nil) (pss_cons (ps_set (i := 1) sc_tree_of.nd rfl (Or.inl rfl) pe_dnewK) (pss_cons (ps_set (i := 2) sc_tree_of.nd rfl (Or.inl rfl) pe_int) (pss_cons (ps_set (i := 3) sc_tree_of.nd rfl (Or.inl rfl) (pe_un un_neg pe_int)) (pss_cons (ps_for PassesOwn.never rfl (pi_range1 (by rfl) (z_range T) (pa_cons (pe_ix ix_list (pv 0) pe_int (fun _ _ => rfl)) pa_nil)) (pg_name (i := 4) sc_tree_of.nd rfl (Or.inl rfl)) (pss_cons (ps_set (i := 5) sc_tree_of.nd rfl (Or.inl rfl) (pe_f (ok_tokens_at T) (g_tokens_at T) (hr.mono (by decide)) (pa_cons (pv 0) (pa_cons (pe_op op_add (pv 2) pe_int) (pa_cons (pe_gint (i_MOST_TOKENS_trees T)) pa_nil))))) (pss_cons (ps_if (PW.pt (pw_or (pt_cmpR op_isN (pv 5) pe_non (nomark _)) (pw_or (pt_not (pt_val (pe_f (ok_is_name T) (g_is_name T) (hr.mono (by decide)) (pa_cons (pe_ix ix_list (pv 0) (pv 2) (fun _ _ => rfl)) pa_nil)))) (pw_or1 (pt_cmpR op_le (pe_ix ix_list (pv 0) (pv 2) (fun _ _ => rfl)) (pv 3) (nomark _)))))) (pss_one (ps_ret pe_non)) pss_nil) (pss_cons (ps_set (i := 3) sc_tree_of.nd rfl (Or.inl rfl) (pe_ix ix_list (pv 0) (pv 2) (fun _ _ => rfl))) (pss_cons (ps_dput (hu_of hr) (pv 1) (pv 3) (pv 5) rfl) (pss_one (ps_aug (i := 2) sc_tree_of.nd rfl (Or.inl rfl) (pe_op op_add pe_int (pe_callB call_len_seq (by rfl) (z_len T) (by decide +kernel) (pa_cons (pv 5) pa_nil))) ip_add))))))) (pss_cons (ps_if (pt_cmpR op_ne (pv 2) (pe_callB call_len_seq (by rfl) (z_len T) (by decide +kernel) (pa_cons (pv 0) pa_nil)) (nomark _)) (pss_one (ps_ret pe_non)) pss_nil) (pss_one (ps_ret (pv 1))))))))), ?_⟩
    have no : ∀ H', Same H H' → treeOf ns = none → Q .non H' := fun H' s' e => fin _ _ s' (by rw [e]; rfl)
    have ret : ∀ H', Same H H' → natAt ns 0 0 6 = none → Q .non H' := fun H' s' e => no H' s' (by rw [treeOf, e]; rfl)
    refine ⟨_, rfl, a, _, rfl, .inl hS, rfl, _, rfl, ?_⟩
    rw [eq_int]
    refine ite2 (fun c => ret _ (Same.refl _) (natAt_out ?_)) (fun c => ?_)
    · have := of_decide_eq_true c
      rw [List.length_map] at this
      omega
    have h0 : 0 < ns.length := by
      have := of_decide_eq_false (Bool.eq_false_iff.mpr c)
      rw [List.length_map] at this
      omega
    obtain ⟨z, hz⟩ := get_ (ns := ns) (i := 0) h0
    refine ⟨_, rfl, a, _, _, _, rfl, rfl, hS, atI_nat (V_at hz), _, _, rfl, rfl, _, rfl, ?_⟩
    refine ite2 (fun c0 => ?_) (fun c0 => ⟨_, rfl, ret _ (Same.refl _) (natAt_no hz fun k => c0 (decide_eq_true k.1))⟩)
    refine ⟨_, _, rfl, rfl, _, rfl, ?_⟩
    refine ite2 (fun c1 => ret _ (Same.refl _) (natAt_no hz fun k => ?_)) (fun c1 => ?_)
    · have h1 : ¬ z ≤ 6 := of_decide_eq_false (nb c1)
      have h2 := k.2
      omega
    have k0 : 0 ≤ z := of_decide_eq_true c0
    have k1 : z ≤ ((6 : Nat) : Int) := of_decide_eq_true (nb2 c1)
    have hn := natAt_yes hz (lo := 0) (hi := 6) ⟨k0, k1⟩
    obtain ⟨n, rfl⟩ : ∃ n : Nat, z = (n : Int) := ⟨z.toNat, by omega⟩
    rw [Int.toNat_natCast] at hn
    have ht : treeOf ns = (scanR ns n).bind fun u => if u.2 = ns.length then some u.1 else none := by rw [treeOf, hn]; rfl
    refine fun p hp => ?_
    have s0 := same_new (o := .dK []) hp
    have b1 : -(2 ^ 62) ≤ (n : Int) := by omega
    have b2 : (n : Int) < 2 ^ 62 := by omega
    refine ⟨_, rfl, _, rfl, a, _, _, _, rfl, rfl, s0.seq hS, atI_nat (V_at hz), (n : Int), rfl, b1, b2, for_range (lo := 0) (n := n)
      (fun i σ H' => ∃ t pl x4 x5, σ = [some (V.ref a), some (V.ref p), some (V.int ((pl : Nat) : Int)), some (V.int (lastOf t)), x4, x5] ∧ Same H H' ∧ scanR ns i = some (t, pl) ∧ ∃ kvs, H' p = some (.dK kvs) ∧ (kvs.map (·.1)).Perm (t.map nameK) ∧ ∀ x ∈ t, TupV H' ((valV kvs (nameK x)).getD .non) x.2)
      ⟨[], 1, none, none, rfl, s0, rfl, [], upd_same, List.Perm.refl _, fun x hx => by cases hx⟩ ?_ ?_⟩
    · rintro i σ H' hi ⟨t, pl, x4, x5, rfl, s', es, kvs, hp', hk, hv⟩
      have stop : scanR ns (i + 1) = none → treeOf ns = none := fun e => by rw [ht, scanR_stop ns e hi]; rfl
      rw [scanR, es, Option.bind_some, oneMore] at stop
      refine ⟨_, rfl, _, rfl, _, _, rfl, rfl, a, ns, pl + 1, 12, rfl, s'.seq hS, hlen, fun r H2 s2 g2 => ?_⟩
      refine ⟨_, rfl, rfl, _, rfl, ?_⟩
      cases e1 : tokensAt ns (pl + 1) 12 with
      | none =>
        rw [e1] at g2 stop
        cases (show r = .non from g2)
        exact ite2 (fun _ => no _ (s'.trans s2) (stop rfl)) (fun c => absurd (decide_eq_true rfl) c)
      | some cs =>
        rw [e1] at g2 stop
        rw [Option.bind_some] at stop
        obtain ⟨p1, rfl, g2⟩ := g2
        have tl := tokensAt_len e1
        obtain ⟨z, hz2⟩ := get_ (ns := ns) (i := pl) (by omega)
        have s12 := s'.trans s2
        refine ite2 (fun c => (isN_no rfl c).elim) (fun _ => ?_)
        refine ⟨_, rfl, _, rfl, a, _, _, _, rfl, rfl, s12.seq hS, atI_nat (V_at hz2), z, rfl, ?_⟩
        refine ⟨_, rfl, ?_⟩
        refine ite2 (fun c1 => no _ s12 (stop (by rw [natAt_no hz2 (nm_no (nb c1))]; rfl))) (fun c1 => ?_)
        have k1 := nm_yes (nb2 c1)
        obtain ⟨f, rfl⟩ : ∃ f : Nat, z = (f : Int) := ⟨z.toNat, by omega⟩
        rw [natAt_is hz2 k1, Option.bind_some] at stop
        refine ⟨_, rfl, _, rfl, a, _, _, _, rfl, rfl, s12.seq hS, atI_nat (V_at hz2), _, rfl, _, _, rfl, rfl, _, rfl, ?_⟩
        refine ite2 (fun c2 => no _ s12 (stop (if_neg ?_))) (fun c2 => ?_)
        · have h1 : (f : Int) ≤ lastOf t := of_decide_eq_true c2
          show ¬ lastOf t < (f : Int)
          omega
        have lt : lastOf t < (f : Int) := by
          have h1 : ¬ (f : Int) ≤ lastOf t := of_decide_eq_false (Bool.eq_false_iff.mpr c2)
          omega
        have inv := scanR_inv ns h0 i es
        have below : ∀ x ∈ t, x.1 < f := fun x hx => by have := inv.2.2.2 x hx; omega
        have lk : kvs.length = i := by
          have := hk.length_eq
          rw [List.length_map, List.length_map, inv.2.1] at this
          exact this
        have hp2 := s2 _ _ hp'
        refine ⟨_, rfl, _, rfl, a, _, _, _, rfl, rfl, s12.seq hS, atI_nat (V_at hz2), ?_⟩
        refine ⟨_, rfl, _, rfl, _, rfl, p, _, rfl, DPut.k (k := Sum.inl (f : Int)) hp2 (Nat.lt_of_le_of_lt (show kvs.length ≤ 6 by omega) (by decide)), ?_⟩
        have s3 : Same H (upd H2 p (.dK (putK kvs (Sum.inl (f : Int)) (.ref p1)))) := same_mut s12 hp
        have hc : TupV (upd H2 p (.dK (putK kvs (Sum.inl (f : Int)) (.ref p1)))) (.ref p1) cs := TupV.upd ⟨p1, rfl, g2⟩ hp2
        refine ⟨_, rfl, _, rfl, p1, _, rfl, .inr (SqT.of (by obtain ⟨_, e, q⟩ := hc; cases e; exact q)), ?_⟩
        obtain ⟨q1, q2⟩ := tree_put (H := upd H2 p (.dK (putK kvs (Sum.inl (f : Int)) (.ref p1)))) (v := .ref p1) (c := cs) (f := f) inv.2.2.1.1 hk (fun x hx => TupV.upd ((hv x hx).same s2) hp2) hc
        rw [put_last f cs below] at q1 q2
        refine ⟨_, _, rfl, rfl, _, _, rfl, rfl, t ++ [(f, cs)], pl + 2 + cs.length, some (V.int (0 + (i : Int))), some (V.ref p1), ?_, s3, ?_, _, upd_same, q1, q2⟩
        · have la : lastOf (t ++ [(f, cs)]) = (f : Int) := by simp [lastOf]
          have lp : (pl : Int) + (2 + ((toks cs).length : Int)) = ((pl + 2 + cs.length : Nat) : Int) := by
            rw [List.length_map]
            omega
          rw [la, ← lp]
          rfl
        · rw [scanR, es, Option.bind_some, oneMore]
          simp only [e1, Option.bind_some]
          rw [natAt_is hz2 k1, Option.bind_some, if_pos lt]
    · rintro σ H' ⟨t, pl, x4, x5, rfl, s', es, kvs, hp', hk, hv⟩
      have hn1 := scanR_inv ns h0 n es
      rw [ht, es, Option.bind_some] at fin
      refine ⟨_, rfl, _, rfl, a, _, rfl, .inl (s'.seq hS), rfl, _, rfl, ?_⟩
      refine ite2 (fun c => ?_) (fun c => ?_)
      · rw [eq_int] at c
        have hne := of_decide_eq_false (nb c)
        rw [List.length_map] at hne
        rw [if_neg (fun e => hne (by show (pl : Int) = _; rw [← e]))] at fin
        exact fin _ _ s' rfl
      · rw [eq_int] at c
        have he := of_decide_eq_true (nb2 c)
        rw [List.length_map] at he
        rw [if_pos (show pl = ns.length by omega)] at fin
        exact ⟨_, rfl, fin _ _ s' ⟨p, kvs, rfl, hp', hk, hv⟩⟩
end
end Rw
end
section
set_option Elab.async false
set_option linter.all false
set_option maxRecDepth 100000
set_option maxHeartbeats 4000000
namespace Rw
open PySem PySem.Spec PyProof.Rows L2
open VapatBase (fileIn putFile dropFile namesOf flatStep inFile swapAll turnedAll appliedAll flatTree)
/-! ### the object of a line -/
/-- what the object may hold -/
def Good (s : Vapatd.State) : Prop := match s.tree with
  | none => s.rows = []
  | some t => s.rows.length = 4 ∧ wfT 12 t ∧ ∀ l ∈ s.rows, l.length ≤ 24 ∧ ∃ u, appliedAll t l = some u
def fStore (tv : V) (ra : Addr) : List (Str × V) := [("tree", tv), ("rows", .ref ra)]
def RowsV (K : PySem.W.Frag) (H : Hp) (rs : List Addr) (ls : List (List PStep)) : Prop := Paired (fun a l => ∃ vs, H a = some (.lst vs) ∧ StepsV K H vs l) rs ls
/-- the object at x, F all that may change of it -/
def StoreV (K : PySem.W.Frag) (H : Hp) (x : Addr) (F : List Addr) (s : Vapatd.State) : Prop := ∃ dx tv ra rs, H x = some (.ins (He.ga K "Store") dx (fStore tv ra)) ∧ H ra = some (.lst (rs.map V.ref)) ∧ RowsV K H rs s.rows ∧ F = x :: ra :: rs ∧ F.Nodup ∧
  Good s ∧ (match s.tree with | none => tv = .non | some t => TreeV H tv t)
theorem RowsV.same {K : PySem.W.Frag} {H H' : Hp} {rs : List Addr} {ls : List (List PStep)} (s : Same H H') (h : RowsV K H rs ls) : RowsV K H' rs ls := Paired.mapP h fun _ _ ⟨vs, h1, h2⟩ => ⟨vs, s _ _ h1, StepsV.same s h2⟩
theorem StoreV.same {K : PySem.W.Frag} {H H' : Hp} {x : Addr} {F : List Addr} {st : Vapatd.State} (s : Same H H') (h : StoreV K H x F st) : StoreV K H' x F st := by
  obtain ⟨dx, tv, ra, rs, h1, h2, h3, h4, h5, h6, h7⟩ := h
  refine ⟨dx, tv, ra, rs, s _ _ h1, s _ _ h2, h3.same s, h4, h5, h6, ?_⟩
  cases e : st.tree with
  | none => rw [e] at h7; exact h7
  | some t => rw [e] at h7; exact h7.same s
theorem lk_tree (tv : V) (ra : Addr) : (fStore tv ra).lookup ("tree" : Str) = some tv := rfl
theorem lk_rows (tv : V) (ra : Addr) : (fStore tv ra).lookup ("rows" : Str) = some (.ref ra) := by
  show List.lookup ("rows" : Str) [("tree", tv), ("rows", .ref ra)] = _
  rw [List.lookup, show (("rows" : Str) == "tree") = false by decide +kernel]
  rfl
section
variable {K : PySem.W.Frag} {mg : Str → Option Value}
def outB (z : Int) : Bool := !(decide (0 ≤ z) && decide (z < 4))
/-- why a call for rows is refused -/
def refusal (s : Vapatd.State) (l : List Int) : Int := match s.tree with
  | none => -8
  | some _ => if l.any outB = true then -2 else if l.length = 2 ∧ l[0]? = l[1]? then -3 else 0
theorem ref_none {s : Vapatd.State} (l : List Int) (e : s.tree = none) : refusal s l = -8 := by
  unfold refusal
  rw [e]
theorem ref_out {s : Vapatd.State} {l : List Int} {t : VapatBase.Tree} (e : s.tree = some t) (c : l.any outB = true) : refusal s l = -2 := by
  unfold refusal
  rw [e]
  exact if_pos c
theorem ref_in {s : Vapatd.State} {l : List Int} {t : VapatBase.Tree} (e : s.tree = some t) (c : ¬ l.any outB = true) : refusal s l = if l.length = 2 ∧ l[0]? = l[1]? then -3 else 0 := by
  unfold refusal
  rw [e]
  exact if_neg c
/-- why a call that names rows is refused, whether or not they are the same -/
def ref0 (s : Vapatd.State) (l : List Int) : Int := match s.tree with
  | none => -8
  | some _ => if l.any outB = true then -2 else 0
theorem ref0_none {s : Vapatd.State} (l : List Int) (e : s.tree = none) : ref0 s l = -8 := by
  unfold ref0
  rw [e]
theorem ref0_out {s : Vapatd.State} {l : List Int} {t : VapatBase.Tree} (e : s.tree = some t) (c : l.any outB = true) : ref0 s l = -2 := by
  unfold ref0
  rw [e]
  exact if_pos c
theorem ref0_in {s : Vapatd.State} {l : List Int} {t : VapatBase.Tree} (e : s.tree = some t) (c : ¬ l.any outB = true) : ref0 s l = 0 := by
  unfold ref0
  rw [e]
  exact if_neg c
theorem ref0_one (s : Vapatd.State) (r : Int) : ref0 s [r] = refusal s [r] := by
  cases e : s.tree with
  | none => rw [ref0_none _ e, ref_none _ e]
  | some t =>
    by_cases c : [r].any outB = true
    · rw [ref0_out e c, ref_out e c]
    · rw [ref0_in e c, ref_in e c, if_neg (fun z => by simp at z)]
theorem ref0_two (s : Vapatd.State) (r q : Int) : refusal s [r, q] = if ref0 s [r, q] = 0 ∧ r = q then -3 else ref0 s [r, q] := by
  cases e : s.tree with
  | none => rw [ref0_none _ e, ref_none _ e]; rfl
  | some t =>
    by_cases c : [r, q].any outB = true
    · rw [ref0_out e c, ref_out e c]; rfl
    · rw [ref0_in e c, ref_in e c]
      by_cases k : r = q
      · subst k
        rw [if_pos ⟨rfl, rfl⟩, if_pos ⟨rfl, rfl⟩]
      · rw [if_neg (fun z => k (by have := z.2; simp at this; exact this)), if_neg (fun z => k z.2)]
def spRefusal (K : PySem.W.Frag) : Sp := fun vs H Q _ => ∃ x F s a l, vs = [.ref x, .ref a] ∧ StoreV K H x F s ∧ SqL K H a (l.map V.int) ∧ l.length ≤ 1000 ∧ ∀ H', Same H H' → Q (.int (ref0 s l)) H'
theorem ok_Store_refusal_for (T : Tx K mg) : Ok K mg 9 ("Store", some "refusal_for") ["self", "rows"] (spRefusal K) := by
  refine Ok.up (j := 1) ?_ (by decide)
  refine mk_ok T e_Store_refusal_for rfl rfl sc_Store_refusal_for (fun _ _ _ _ _ _ us hl => match us, hl with | [_, _], _ => rfl) (fun vs H Q E h => ?_) (fun P w base f cdv A outer s H vs Q E hr h => ?_)
  · obtain ⟨x, F, s, a, l, rfl, _⟩ := h; rfl
  · obtain ⟨x, F, st, a, l, rfl, ⟨dx, tv, ra, rs, h1, h2, h3, h4, h5, h6, h7⟩, ha, hl, q⟩ := h
    refine ⟨_, (pss_cons (ps_if (pt_cmpR op_isN (pe_fld (pv 0) rfl) pe_non (nomark _)) (pss_one (ps_ret (pe_gint (i_NO_TREE T)))) pss_nil) (pss_cons (ps_if (pt_val (pe_callB (cr_any rfl) (by rfl) (z_any T) (by decide +kernel) (pa_cons (pe_lc (own := [("row", 2)]) (g := gName 2) (by rfl) sc_Store_refusal_for.nd (pi_list (pv 1)) (blkOk_by (own := [("row", 2)]) (N := nm_Store_refusal_for) (sc := defScope s_Store_refusal_for) (by decide +kernel)) (fun _ _ _ _ _ => pg_name (i := 2) sc_Store_refusal_for.nd rfl (Or.inl rfl)) (fun _ _ _ _ _ => pts_nil) (fun _ _ _ _ _ => (pe_not (pe_chain op_le op_lt pe_int (pv 2) (pe_gint (i_ROWS T)))))) pa_nil))) (pss_one (ps_ret (pe_gint (i_NO_ROW T)))) pss_nil) (pss_one (ps_ret pe_int)))), ?_⟩
    refine ⟨_, rfl, x, _, dx, _, _, rfl, h1, c_Store T, n_Store_tree T, lk_tree tv ra, rfl, _, rfl, ?_⟩
    cases e : st.tree with
    | none =>
      rw [e] at h7
      subst h7
      refine ite2 (fun _ => ?_) (fun c => absurd (decide_eq_true rfl) c)
      rw [ref0_none l e] at q
      exact q _ (Same.refl _)
    | some t =>
      rw [e] at h7
      obtain ⟨d, kvs, rfl, _⟩ := h7
      refine ite2 (fun c => (isN_no rfl c).elim) (fun _ => ?_)
      have hz : (l.map V.int).length < sizeLine := by rw [List.length_map]; exact Nat.lt_of_le_of_lt hl (by decide)
      refine ⟨_, rfl, a, rfl, ⟨_, ha⟩, fun D hD => comp_map L2.walk_list (fun v => match v with | .int z => .bl (outB z) | v => v) hz (fun acc => (same_new hD).seq ha) (fun y hy acc Q2 q2 => ?_) ?_⟩
      · obtain ⟨z, _, rfl⟩ := List.mem_map.mp hy
        have q2 : Q2 (.bl (outB z)) (upd H D (.lst acc)) := q2
        refine ⟨_, rfl, _, _, rfl, rfl, _, rfl, ?_⟩
        refine ite2 (fun c => ⟨_, _, rfl, rfl, ?_⟩) (fun c => ?_)
        · refine ⟨_, rfl, ?_⟩
          have e2 : outB z = !decide (z < 4) := by rw [outB, c, Bool.true_and]
          rw [e2] at q2
          exact q2
        · refine ⟨false, rfl, ?_⟩
          have e2 : outB z = !false := by rw [outB, Bool.eq_false_iff.mpr c, Bool.false_and]
          rw [e2] at q2
          exact q2
      · refine ⟨D, l.map outB, rfl, SqL.of ?_, ?_⟩
        · rw [upd_same, List.map_map, List.map_map]
          rfl
        · rw [List.any_map]
          refine ⟨_, rfl, ?_⟩
          have sD := same_new (o := .lst ((l.map V.int).map (fun v => match v with | .int z => V.bl (outB z) | v => v))) hD
          refine ite2 (fun c => ?_) (fun c => ?_)
          · rw [ref0_out e c] at q
            exact q _ sD
          · rw [ref0_in e c] at q
            exact q _ sD
theorem lk_no {m : Str} (h1 : (m == ("tree" : Str)) = false) (h2 : (m == ("rows" : Str)) = false) (tv : V) (ra : Addr) : (fStore tv ra).lookup m = none := by
  show List.lookup m [("tree", tv), ("rows", .ref ra)] = none
  rw [List.lookup, h1, List.lookup, h2]
  rfl
def spRefusal2 (K : PySem.W.Frag) : Sp := fun vs H Q _ => ∃ x F s r q, vs = [.ref x, .int r, .int q] ∧ StoreV K H x F s ∧ ∀ H', Same H H' → Q (.int (refusal s [r, q])) H'
theorem ok_Store_refusal_for_two (T : Tx K mg) : Ok K mg 10 ("Store", some "refusal_for_two") ["self", "row", "other"] (spRefusal2 K) := by
  refine mk_ok T e_Store_refusal_for_two rfl rfl sc_Store_refusal_for_two (fun _ _ _ _ _ _ us hl => match us, hl with | [_, _, _], _ => rfl) (fun vs H Q E h => ?_) (fun P w base f cdv A outer s H vs Q E hr h => ?_)
  · obtain ⟨x, F, s, r, q, rfl, _⟩ := h; rfl
  · obtain ⟨x, F, st, r, r2, rfl, hS, q⟩ := h
    refine ⟨_, (pss_cons (ps_set (i := 3) sc_Store_refusal_for_two.nd rfl (Or.inl rfl) (pe_mp (k := 9) (pv 0) (hr.mono (by decide)) (pa_cons (pe_lst (pa_cons (pv 1) (pa_cons (pv 2) pa_nil))) pa_nil))) (pss_cons (ps_if (PW.pt (pw_and (pt_cmpR op_eq (pv 3) pe_int (nomark _)) (pw_and1 (pt_cmpR op_eq (pv 1) (pv 2) (nomark _))))) (pss_one (ps_ret (pe_gint (i_SAME_ROW T)))) pss_nil) (pss_one (ps_ret (pv 3))))), ?_⟩
    obtain ⟨dx, tv, ra, rs, h1, _⟩ := id hS
    have mo := m_ok (c_Store T) (m_Store_refusal_for T) (ok_Store_refusal_for T)
    refine ⟨_, rfl, _, x, dx, _, _, mo, rfl, h1, lk_no (by decide +kernel) (by decide +kernel) tv ra, _, rfl, _, rfl, by show 2 ≤ sizeLine; decide, fun p hp => ?_⟩
    have s1 := same_new (o := .lst [V.int r, V.int r2]) hp
    refine ⟨x, F, st, p, [r, r2], rfl, hS.same s1, SqL.of upd_same, by show 2 ≤ 1000; decide, fun H2 s2 => ?_⟩
    have s12 := s1.trans s2
    rw [ref0_two] at q
    refine ⟨_, rfl, rfl, _, rfl, ?_⟩
    rw [eq_int]
    refine ite2 (fun c => ?_) (fun c => ?_)
    · refine ⟨_, rfl, _, rfl, rfl, _, rfl, ?_⟩
      rw [eq_int]
      refine ite2 (fun c2 => ?_) (fun c2 => ?_)
      · rw [if_pos ⟨of_decide_eq_true c, of_decide_eq_true c2⟩] at q
        exact q _ s12
      · rw [if_neg (fun z => c2 (decide_eq_true z.2))] at q
        exact ⟨_, rfl, q _ s12⟩
    · rw [if_neg (fun z => c (decide_eq_true z.1))] at q
      exact ⟨_, rfl, q _ s12⟩
end
end Rw
end
section
set_option Elab.async false
set_option linter.all false
set_option maxRecDepth 100000
set_option maxHeartbeats 4000000
namespace Rw
open PySem PySem.Spec PyProof.Rows L2
open VapatBase (fileIn putFile dropFile namesOf flatStep inFile swapAll turnedAll appliedAll flatTree)
open Vapatd (onTree rowOf)
theorem outB_no {z : Int} (h : outB z = false) : ∃ k : Nat, z = (k : Int) ∧ k < 4 := by
  unfold outB at h
  have h := nb2 (b := decide (0 ≤ z) && decide (z < 4)) (by rw [h]; simp)
  rw [Bool.and_eq_true] at h
  have h0 : 0 ≤ z := of_decide_eq_true h.1
  have h1 : z < 4 := of_decide_eq_true h.2
  exact ⟨z.toNat, by omega, by omega⟩
theorem rowOf_out {s : Vapatd.State} {z : Int} (h : outB z = true) : rowOf s z = none := by
  unfold rowOf
  rw [if_neg]
  intro k
  have k1 : 0 ≤ z := k.1
  have k2 : z < 4 := k.2
  rw [outB, decide_eq_true k1, decide_eq_true k2] at h
  cases h
theorem rowOf_in {s : Vapatd.State} {t : VapatBase.Tree} {k : Nat} (g : Good s) (e : s.tree = some t) (hk : k < 4) : ∃ l, s.rows[k]? = some l ∧ rowOf s (k : Int) = some (k, l) ∧ l.length ≤ 24 ∧ ∃ u, appliedAll t l = some u := by
  unfold Good at g
  rw [e] at g
  obtain ⟨g1, g2, g3⟩ := g
  have hk2 : k < s.rows.length := by omega
  refine ⟨s.rows[k], List.getElem?_eq_getElem hk2, ?_, g3 _ (List.getElem_mem hk2)⟩
  unfold rowOf
  have c : (0 : Int) ≤ (k : Int) ∧ (k : Int) < Vapatd.int Vapatd.ROWS := ⟨by omega, by show (k : Int) < 4; omega⟩
  rw [if_pos c, Int.toNat_natCast, List.getElem?_eq_getElem hk2]
  rfl
theorem good_wf {s : Vapatd.State} {t : VapatBase.Tree} (g : Good s) (e : s.tree = some t) : wfT 12 t := by
  unfold Good at g
  rw [e] at g
  exact g.2.1
/-- one row asked for -/
theorem one_row {s : Vapatd.State} (g : Good s) (r : Int) : (refusal s [r] < 0 ∧ ∀ f, Vapatd.onRow s r f = (s, [refusal s [r]])) ∨
    (refusal s [r] = 0 ∧ ∃ t k l, s.tree = some t ∧ r = ((k : Nat) : Int) ∧ s.rows[k]? = some l ∧ l.length ≤ 24 ∧ (∃ u, appliedAll t l = some u) ∧ ∀ f, Vapatd.onRow s r f = f t k l) := by
  cases e : s.tree with
  | none =>
    refine .inl ⟨by rw [ref_none _ e]; decide, fun f => ?_⟩
    unfold Vapatd.onRow onTree
    rw [e, ref_none _ e]
  | some t =>
    cases ho : outB r with
    | true =>
      have c : [r].any outB = true := by simp [ho]
      refine .inl ⟨by rw [ref_out e c]; decide, fun f => ?_⟩
      unfold Vapatd.onRow onTree
      rw [e, ref_out e c, rowOf_out ho]
    | false =>
      have c : ¬ [r].any outB = true := by simp [ho]
      obtain ⟨k, rfl, hk⟩ := outB_no ho
      obtain ⟨l, h1, h2, h3, h4⟩ := rowOf_in g e hk
      refine .inr ⟨by rw [ref_in e c, if_neg (fun z => by simp at z)], t, k, l, rfl, rfl, h1, h3, h4, fun f => ?_⟩
      unfold Vapatd.onRow onTree
      rw [e, h2]
/-- two rows asked for -/
theorem two_rows {s : Vapatd.State} (g : Good s) (r q : Int) : (refusal s [r, q] < 0 ∧ ∀ f, Vapatd.onRows s r q f = (s, [refusal s [r, q]])) ∨
    (refusal s [r, q] = 0 ∧ ∃ t k j l m, s.tree = some t ∧ r = ((k : Nat) : Int) ∧ q = ((j : Nat) : Int) ∧ k ≠ j ∧ s.rows[k]? = some l ∧ s.rows[j]? = some m ∧ l.length ≤ 24 ∧ m.length ≤ 24 ∧ (∃ u, appliedAll t l = some u) ∧ (∃ u, appliedAll t m = some u) ∧ ∀ f, Vapatd.onRows s r q f = f t k l m) := by
  cases e : s.tree with
  | none =>
    refine .inl ⟨by rw [ref_none _ e]; decide, fun f => ?_⟩
    unfold Vapatd.onRows Vapatd.onRow onTree
    rw [e, ref_none _ e]
  | some t =>
    cases ho : outB r with
    | true =>
      have c : [r, q].any outB = true := by simp [ho]
      refine .inl ⟨by rw [ref_out e c]; decide, fun f => ?_⟩
      unfold Vapatd.onRows Vapatd.onRow onTree
      rw [e, ref_out e c, rowOf_out ho]
    | false =>
      obtain ⟨k, rfl, hk⟩ := outB_no ho
      obtain ⟨l, h1, h2, h3, h4⟩ := rowOf_in g e hk
      cases ho2 : outB q with
      | true =>
        have c : [(k : Int), q].any outB = true := by simp [ho2]
        refine .inl ⟨by rw [ref_out e c]; decide, fun f => ?_⟩
        unfold Vapatd.onRows Vapatd.onRow onTree
        rw [e, ref_out e c, h2, rowOf_out ho2]
      | false =>
        have c : ¬ [(k : Int), q].any outB = true := by simp [ho, ho2]
        obtain ⟨j, rfl, hj⟩ := outB_no ho2
        obtain ⟨m, k1, k2, k3, k4⟩ := rowOf_in g e hj
        by_cases ek : k = j
        · subst ek
          refine .inl ⟨by rw [ref_in e c, if_pos ⟨rfl, rfl⟩]; decide, fun f => ?_⟩
          unfold Vapatd.onRows Vapatd.onRow onTree
          rw [e, ref_in e c, if_pos ⟨rfl, rfl⟩, h2]
          simp
        · have ne : ¬ ([(k : Int), (j : Int)].length = 2 ∧ [(k : Int), (j : Int)][0]? = [(k : Int), (j : Int)][1]?) := fun z => ek (by have := z.2; simp at this; omega)
          refine .inr ⟨by rw [ref_in e c, if_neg ne], t, k, j, l, m, rfl, rfl, rfl, ek, h1, k1, h3, k3, h4, k4, fun f => ?_⟩
          unfold Vapatd.onRows Vapatd.onRow onTree
          rw [e, h2]
          simp only
          rw [k2]
          simp [ek]
end Rw
end
section
set_option Elab.async false
set_option linter.all false
set_option maxRecDepth 100000
set_option maxHeartbeats 4000000
namespace Rw
open PySem PySem.Spec PyProof.Rows L2
open VapatBase (fileIn putFile dropFile namesOf flatStep inFile swapAll turnedAll appliedAll flatTree)
theorem pr_at {α β : Type} {R : α → β → Prop} : ∀ {xs : List α} {ys : List β} {i : Nat} {y : β}, Paired R xs ys → ys[i]? = some y → ∃ x, xs[i]? = some x ∧ R x y
  | _, _, _, _, .nil, e => by simp at e
  | _, _, 0, _, .cons r _, e => by simp at e; subst e; exact ⟨_, rfl, r⟩
  | _, _, i + 1, y, .cons _ t, e => by
    obtain ⟨x, h1, h2⟩ := pr_at (i := i) (y := y) t (by simpa using e)
    exact ⟨x, by simpa using h1, h2⟩
section
variable {K : PySem.W.Frag} {mg : Str → Option Value}
/-- a row of the object -/
theorem StoreV.row {H : Hp} {x : Addr} {F : List Addr} {s : Vapatd.State} {k : Nat} {l : List PStep} (h : StoreV K H x F s) (hk : s.rows[k]? = some l) :
    ∃ (dx : Addr) (tv : V) (ra : Addr) (rs : List Addr) (b : Addr), H x = some (.ins (He.ga K "Store") dx (fStore tv ra)) ∧ H ra = some (.lst (rs.map V.ref)) ∧ (rs.map V.ref)[k]? = some (V.ref b) ∧ RowV K H (.ref b) l ∧ b ∈ F := by
  obtain ⟨dx, tv, ra, rs, h1, h2, h3, h4, _⟩ := h
  obtain ⟨b, e, vs, g1, g2⟩ := pr_at h3 hk
  exact ⟨dx, tv, ra, rs, b, h1, h2, by rw [List.getElem?_map, e]; rfl, ⟨b, vs, rfl, g1, g2⟩, by rw [h4]; exact List.mem_cons_of_mem _ (List.mem_cons_of_mem _ (List.mem_of_getElem? e))⟩
theorem StoreV.good {H : Hp} {x : Addr} {F : List Addr} {s : Vapatd.State} (h : StoreV K H x F s) : Good s := by
  obtain ⟨_, _, _, _, _, _, _, _, _, g, _⟩ := h
  exact g
def spTreeOfRow (K : PySem.W.Frag) : Sp := fun vs H Q _ => ∃ x F s t k l u, vs = [.ref x, .int ((k : Nat) : Int)] ∧ StoreV K H x F s ∧ s.tree = some t ∧ s.rows[k]? = some l ∧ l.length ≤ 24 ∧ appliedAll t l = some u ∧ ∀ r H', Same H H' → TreeV H' r u → Q r H'
theorem ok_Store_tree_of_row (T : Tx K mg) : Ok K mg 9 ("Store", some "tree_of_row") ["self", "row"] (spTreeOfRow K) := by
  refine Ok.up (j := 6) ?_ (by decide)
  refine mk_ok T e_Store_tree_of_row rfl rfl sc_Store_tree_of_row (fun _ _ _ _ _ _ us hl => match us, hl with | [_, _], _ => rfl) (fun vs H Q E h => ?_) (fun P w base f cdv A outer s H vs Q E hr h => ?_)
  · obtain ⟨x, F, s, t, k, l, u, rfl, _⟩ := h; rfl
  · obtain ⟨x, F, st, t, k, l, u, rfl, hS, et, hk, hl, hu, q⟩ := h
    refine ⟨_, (pss_one (ps_ret (pe_f (ok_tree_after T) (g_tree_after T) (hr.mono (by decide)) (pa_cons (pe_fld (pv 0) rfl) (pa_cons (pe_ix ix_list (pe_fld (pv 0) rfl) (pv 1) (fun _ _ => rfl)) pa_nil))))), ?_⟩
    have g := hS.good
    obtain ⟨dx, tv, ra, rs, b, h1, h2, h3, h4, _⟩ := hS.row hk
    obtain ⟨dx', tv', ra', rs', h1', _, _, _, _, _, h7⟩ := id hS
    rw [h1] at h1'
    cases h1'
    rw [et] at h7
    have h7 : TreeV H tv t := h7
    refine ⟨_, rfl, x, _, dx, _, _, rfl, h1, c_Store T, n_Store_tree T, lk_tree tv ra, _, rfl, x, _, dx, _, _, rfl, h1, c_Store T, n_Store_rows T, lk_rows tv ra, _, rfl, ra, _, _, _, rfl, rfl, SqL.of h2, atI_nat h3, ?_⟩
    exact ⟨tv, .ref b, t, l, 12, u, rfl, h7, h4, good_wf g et, by omega, hu, q⟩
theorem IntsN.under {H0 H1 H : Hp} {v : V} {l : List Int} (h : IntsN H1 H v l) (s : Same H0 H1) : IntsN H0 H v l := by
  obtain ⟨a, e, h1, h2⟩ := h
  exact ⟨a, e, none_of s h1, h2⟩
/-- one number told in a new list -/
theorem one_new {H0 H : Hp} {n : Int} {Q : VK} (s : Same H0 H) (k : ∀ z H', Same H0 H' → IntsN H0 H' z [n] → Q z H') : ([V.int n] : List V).length ≤ sizeLine ∧ ∀ p, H p = none → Q (.ref p) (upd H p (.lst [V.int n])) :=
  ⟨by show 1 ≤ sizeLine; decide, fun p hp => k _ _ (s.trans (same_new hp)) ⟨p, rfl, none_of s hp, upd_same⟩⟩
/-- a call that only looks -/
def spLook (K : PySem.W.Frag) (g : Vapatd.State → Int → List Int) : Sp := fun vs H Q _ => ∃ x F s r, vs = [.ref x, .int r] ∧ StoreV K H x F s ∧ ∀ z H', Same H H' → IntsN H H' z (g s r) → Q z H'
theorem ok_Store_shown (T : Tx K mg) : Ok K mg 10 ("Store", some "shown") ["self", "row"] (spLook K fun s r => (Vapatd.step s (.shown r)).2) := by
  refine mk_ok T e_Store_shown rfl rfl sc_Store_shown (fun _ _ _ _ _ _ us hl => match us, hl with | [_, _], _ => rfl) (fun vs H Q E h => ?_) (fun P w base f cdv A outer s H vs Q E hr h => ?_)
  · obtain ⟨x, F, s, r, rfl, _⟩ := h; rfl
  · obtain ⟨x, F, st, r, rfl, hS, q⟩ := h
    refine ⟨_, (pss_cons (ps_set (i := 2) sc_Store_shown.nd rfl (Or.inl rfl) (pe_mp (k := 9) (pv 0) (hr.mono (by decide)) (pa_cons (pe_lst (pa_cons (pv 1) pa_nil)) pa_nil))) (pss_cons (ps_if (pt_cmpR op_lt (pv 2) pe_int (nomark _)) (pss_one (ps_ret (pe_lst (pa_cons (pv 2) pa_nil)))) pss_nil) (pss_one (ps_ret (pe_f (ok_row_told T) (g_row_told T) (hr.mono (by decide)) (pa_cons (pe_ix ix_list (pe_fld (pv 0) rfl) (pv 1) (fun _ _ => rfl)) pa_nil)))))), ?_⟩
    have g := hS.good
    obtain ⟨dx, tv, ra, rs, h1, _⟩ := id hS
    have mo := m_ok (c_Store T) (m_Store_refusal_for T) (ok_Store_refusal_for T)
    refine ⟨_, rfl, _, x, dx, _, _, mo, rfl, h1, lk_no (by decide +kernel) (by decide +kernel) tv ra, _, rfl, by show 1 ≤ sizeLine; decide, fun p hp => ?_⟩
    have s1 := same_new (o := .lst [V.int r]) hp
    refine ⟨x, F, st, p, [r], rfl, hS.same s1, SqL.of upd_same, by show 1 ≤ 1000; decide, fun H2 s2 => ?_⟩
    rw [ref0_one]
    have s12 := s1.trans s2
    refine ⟨_, rfl, _, _, rfl, rfl, _, rfl, ?_⟩
    rcases one_row g r with ⟨c, hf⟩ | ⟨c, t, k, l, et, rfl, hk, hl, ⟨u, hu⟩, hf⟩
    · refine ite2 (fun _ => ⟨_, rfl, one_new s12 fun z H' s' hz => q _ _ s' ?_⟩) (fun c2 => absurd (decide_eq_true c) c2)
      show IntsN H H' z (Vapatd.onRow st r fun _ _ l => (st, VapatBase.flatSteps l)).2
      rw [hf]
      exact hz
    · refine ite2 (fun c2 => ?_) (fun _ => ?_)
      · have := of_decide_eq_true c2
        omega
      obtain ⟨dx', tv', ra', rs', b, h1', h2', h3', h4', _⟩ := (hS.same s12).row hk
      refine ⟨_, rfl, x, _, dx', _, _, rfl, h1', c_Store T, n_Store_rows T, lk_rows tv' ra', _, rfl, ra', _, _, _, rfl, rfl, SqL.of h2', atI_nat h3', .ref b, l, rfl, h4', by omega, fun z H3 s3 hz => q _ _ (s12.trans s3) ?_⟩
      show IntsN H H3 z (Vapatd.onRow st (k : Int) fun _ _ l => (st, VapatBase.flatSteps l)).2
      rw [hf]
      exact hz.under s12
theorem ok_Store_outcome (T : Tx K mg) : Ok K mg 10 ("Store", some "outcome") ["self", "row"] (spLook K fun s r => (Vapatd.step s (.outcome r)).2) := by
  refine mk_ok T e_Store_outcome rfl rfl sc_Store_outcome (fun _ _ _ _ _ _ us hl => match us, hl with | [_, _], _ => rfl) (fun vs H Q E h => ?_) (fun P w base f cdv A outer s H vs Q E hr h => ?_)
  · obtain ⟨x, F, s, r, rfl, _⟩ := h; rfl
  · obtain ⟨x, F, st, r, rfl, hS, q⟩ := h
    refine ⟨_, (pss_cons (ps_set (i := 2) sc_Store_outcome.nd rfl (Or.inl rfl) (pe_mp (k := 9) (pv 0) (hr.mono (by decide)) (pa_cons (pe_lst (pa_cons (pv 1) pa_nil)) pa_nil))) (pss_cons (ps_if (pt_cmpR op_lt (pv 2) pe_int (nomark _)) (pss_one (ps_ret (pe_lst (pa_cons (pv 2) pa_nil)))) pss_nil) (pss_one (ps_ret (pe_f (ok_tree_told T) (g_tree_told T) (hr.mono (by decide)) (pa_cons (pe_mp (k := 9) (pv 0) (hr.mono (by decide)) (pa_cons (pv 1) pa_nil)) pa_nil)))))), ?_⟩
    have g := hS.good
    obtain ⟨dx, tv, ra, rs, h1, _⟩ := id hS
    have mo := m_ok (c_Store T) (m_Store_refusal_for T) (ok_Store_refusal_for T)
    refine ⟨_, rfl, _, x, dx, _, _, mo, rfl, h1, lk_no (by decide +kernel) (by decide +kernel) tv ra, _, rfl, by show 1 ≤ sizeLine; decide, fun p hp => ?_⟩
    have s1 := same_new (o := .lst [V.int r]) hp
    refine ⟨x, F, st, p, [r], rfl, hS.same s1, SqL.of upd_same, by show 1 ≤ 1000; decide, fun H2 s2 => ?_⟩
    rw [ref0_one]
    have s12 := s1.trans s2
    refine ⟨_, rfl, _, _, rfl, rfl, _, rfl, ?_⟩
    rcases one_row g r with ⟨c, hf⟩ | ⟨c, t, k, l, et, rfl, hk, hl, ⟨u, hu⟩, hf⟩
    · refine ite2 (fun _ => ⟨_, rfl, one_new s12 fun z H' s' hz => q _ _ s' ?_⟩) (fun c2 => absurd (decide_eq_true c) c2)
      show IntsN H H' z (Vapatd.onRow st r fun t _ l => (st, Vapatd.treeTold t l)).2
      rw [hf]
      exact hz
    · refine ite2 (fun c2 => ?_) (fun _ => ?_)
      · have := of_decide_eq_true c2
        omega
      have mo2 := m_ok (c_Store T) (m_Store_tree_of_row T) (ok_Store_tree_of_row T)
      have hS2 := hS.same s12
      have wl := all_wf (good_wf g et) (by obtain ⟨_, _, _, _, _, _, _, _, ⟨_, _, e, _, w⟩, _⟩ := hS.row hk; exact w.wf_all) hu
      refine ⟨_, rfl, _, x, dx, _, _, mo2, rfl, s12 _ _ h1, lk_no (by decide +kernel) (by decide +kernel) tv ra, _, rfl, x, F, st, t, k, l, u, rfl, hS2, et, hk, hl, hu, fun v H3 s3 hv => ?_⟩
      refine ⟨v, u, _, rfl, hv, wl, by omega, fun z H4 s4 hz => q _ _ ((s12.trans s3).trans s4) ?_⟩
      show IntsN H H4 z (Vapatd.onRow st (k : Int) fun t _ l => (st, Vapatd.treeTold t l)).2
      rw [hf]
      show IntsN H H4 z (Vapatd.treeTold t l)
      rw [Vapatd.treeTold, hu]
      exact hz.under (s12.trans s3)
end
end Rw
end
section
set_option Elab.async false
set_option linter.all false
set_option maxRecDepth 100000
set_option maxHeartbeats 4000000
namespace L2
open PySem PySem.Spec PyProof.Rows
/-! ### set(xs), xs a list of ints, some of them alike -/
section
variable {P : Program} {w : World} {A : Around} {E : Value → Shared → Prop} {s : Shared}
abbrev noneIn (w : World) : Obj := { cls := .type "set", dict := none, data := .set #[] 0 (.fresh 0 0 (!w.params.followText "set-order")) }
theorem set_of_ints {l : Addr} {xs : Array Value} (ns : List Int) {Q : Value → Shared → Prop} (calm : A.handled = none) (isl : s.heap.IsList l xs) (allInt : IntsAre xs.toList ns) (few : ns.length + 1 < scanBound)
    (fin : ∀ (g : Heap) (tk c : Nat), SetR w g s.heap.objs.size (fun j => decide (j ∈ ns)) c → c ≤ ns.length → (∀ b o, s.heap.get? b = some o → g.get? b = some o) → Q (.ref s.heap.objs.size) { s with heap := g, toks := tk }) :
    wpAny (model P w) A (call (.type "set") [.ref l]) Q E s := by
  have size_eq : xs.size = ns.length := by
    rw [← Array.length_toList]
    exact IntsAre.length allInt
  obtain ⟨c, tl, mro_eq⟩ := F.called_set.mro
  have f1 := F.called_set.made
  have f2 := F.called_set.sub
  have f3 := F.called_set.notType
  have f4 := F.called_set.canCreate
  have f5 := F.typeCall_set_1 (.ref l)
  apply wpAny_call
  apply codeAny_of_tree
  show wpAny _ _ (callAny (.type "set") _) _ _ _
  apply wpAny_pure
  refine ⟨Code.quiet_builtin _ (by decide +kernel), ?_⟩
  apply codeAny_builtin F.entry_type_call
  rw [Around.under_plain (weight_type_call_type "set" [.ref l] []) rfl]
  repeat (any_goals (first | assumption | wp_step))
  refine codeAny_mono (code_set_led1 (.ref l) (E := E) (Q₁ := fun x s1 => x = .ref s.heap.objs.size ∧ s1 = { s with heap := s.heap.push (noneIn w) }) ⟨rfl, rfl⟩) fun r1 s1 hr1 => ?_
  match r1, hr1 with
  | .error e, hr1 => exact hr1
  | .ok (.ret x), hr1 =>
    obtain ⟨rfl, rfl⟩ := hr1
    have gS : (s.heap.push (noneIn w)).get? s.heap.objs.size = some (noneIn w) := Heap.get?_push_size _ rfl
    have tS : Shared.TypeIs { s with heap := s.heap.push (noneIn w) } (.ref s.heap.objs.size) "set" := ⟨_, gS, rfl⟩
    have f6 := F.called_set.init.lookup
    have f7 := F.called_set.init.bind (.ref s.heap.objs.size)
    repeat (any_goals (first | assumption | wp_step))
    refine codeAny_mono (codeAny_call_builtin (R := wants (fun r s2 => r = .none ∧ ∃ g tk c, s2 = { s with heap := g, toks := tk } ∧ SetR w g s.heap.objs.size (fun j => decide (j ∈ ns)) c ∧ c ≤ ns.length ∧
        (∀ b o, s.heap.get? b = some o → g.get? b = some o)) E) F.called_set.init.plain F.entry_set_init (check_set_init_1 tS ?_)) fun r2 s2 hr2 => ?_
    · have lt : l < s.heap.objs.size := by
        obtain ⟨ol, e, _⟩ := isl
        exact Heap.lt_size e
      have isl1 : (s.heap.push (noneIn w)).IsList l xs := isl.push _
      have f8 := F.sub_list_set
      have f9 := F.sub_list_frozenset
      have nd : (Value.type "list" == Value.type "dict") = false := by decide
      obtain ⟨⟨oc, od, odat, os⟩, e0, e1, nl, e2⟩ := isl
      simp only at e1 e2
      subst e1 e2
      have gl : (s.heap.push (noneIn w)).get? l = some { cls := .type "list", dict := od, data := .seq xs nl, slots := os } := Heap.get?_push_of_some _ e0
      have szI : (s.heap.push (noneIn w)).objs.size = s.heap.objs.size + 1 := Heap.size_push ..
      have nI : l ≠ (s.heap.push (noneIn w)).objs.size := by rw [szI]; exact Nat.ne_of_lt (Nat.lt_succ_of_lt lt)
      have sI : s.heap.objs.size ∉ [(s.heap.push (noneIn w)).objs.size, l] := by
        intro z
        rcases List.mem_cons.mp z with z | z
        · rw [szI] at z; omega
        · exact absurd (List.mem_singleton.mp z) (Nat.ne_of_gt lt)
      have hv : ∀ (i : Nat) (v : Value), xs[i]? = some v → ∃ k t, ns[i]? = some k ∧ v = .int k t := fun i v e => by
        have hi : i < ns.length := by
          rw [← size_eq]
          exact (Array.getElem?_eq_some_iff.mp e).1
        obtain ⟨t, e3⟩ := IntsAre.int_at allInt i v (by rw [Array.getElem?_toList]; exact e)
        have e4 : ns.getD i 0 = ns[i] := by rw [List.getD_eq_getElem?_getD, List.getElem?_eq_getElem hi] <;> rfl
        exact ⟨ns[i], t, List.getElem?_eq_getElem hi, by rw [e3, e4]⟩
      unfold Builtin.«set.__init__» noKeywords Builtin.Frozenset.updateFrom
      generalize hp : pyIter = PI
      wp_walk
      subst hp
      refine wpAny_pyIter_list isl1 (wpAny_bind (wpAny_runValue ?_))
      have gS2 : ((s.heap.push (noneIn w)).push { cls := .type "list_iterator", data := .fields #[.ref l, .int 0 0] }).get? s.heap.objs.size = some (noneIn w) := Heap.get?_push_of_some _ gS
      refine set_update_ints ((Walks.list (by simp [calm]) _ l nI xs).toS) s.heap.objs.size sI ns size_eq few hv (xs.size - 0) 0 _ (by omega) (Nat.zero_le _) ⟨⟨_, Heap.get?_push_size _ rfl, rfl, rfl⟩, (isl1.push _)⟩ ⟨0, Nat.le_refl 0, setR_new_at gS2⟩ fun s3 c3 mv le3 R3 => ?_
      obtain ⟨g, gn, dr, tk, oz⟩ := s3
      have q1 : gn = s.gens := mv.gens
      have q2 : dr = s.drawn := mv.drawn
      have q3 : oz = s.os := mv.os
      subst q1 q2 q3
      show wpAny _ _ _ _ _ _
      apply wpAny_pure
      show wpAny _ _ (ret Value.none) _ _ _
      refine wpAny_pure ⟨rfl, g, tk, c3, rfl, R3, by omega, fun b o e => ?_⟩
      have lb := Heap.lt_size e
      refine mv.heap b o (fun z => ?_) (Heap.get?_push_of_some _ (Heap.get?_push_of_some _ e))
      rcases List.mem_cons.mp z with z | z
      · exact absurd z (Nat.ne_of_lt lb)
      · have z2 := List.mem_singleton.mp z
        rw [szI] at z2
        exact absurd z2 (Nat.ne_of_lt (Nat.lt_succ_of_lt lb))
    · match r2, hr2 with
      | .error e, hr2 => exact hr2
      | .ok (.ret r), hr2 =>
        obtain ⟨rfl, g, tk, c3, rfl, R3, le3, k3⟩ := hr2
        repeat (any_goals (first | assumption | wp_step))
        exact fin _ _ _ R3 le3 k3
      | .ok .next, hr2 => exact hr2.elim
      | .ok .brk, hr2 => exact hr2.elim
      | .ok .cont, hr2 => exact hr2.elim
  | .ok .next, hr1 => exact hr1.elim
  | .ok .brk, hr1 => exact hr1.elim
  | .ok .cont, hr1 => exact hr1.elim
end
section
variable {X : Cx}
/-- the unlike ones of a list of ints -/
def rSetL1 (K : PySem.W.Frag) (w : World) : List V → Hp → VK → Prop := fun vs H Q => ∃ (l : Addr) (ns : List Int), vs = [V.ref l] ∧ SqL K H l (ns.map V.int) ∧ ns.length ≤ 1000 ∧
  ∀ (p : Addr) (n : Nat) (L : List Int), H p = none → L.Nodup → (∀ k, k ∈ L ↔ k ∈ ns) → L.length = n → Q (.ref p) (upd H p (SetO w p (fun j => decide (j ∈ ns)) n))
theorem cr_setL (calm : X.calm = true) : CallR X (.type "set") (rSetL1 X.K X.w) := by
  intro pins s σ H vs us Q I r h
  obtain ⟨l, ns, rfl, hq, hl, q⟩ := h
  rw [Vals.ref1 r]
  obtain ⟨its, rv, pl, hz⟩ := I.list hq
  have il := ints_of_vals rv
  refine set_of_ints ns (I.ok.hd calm) pl.isList (by simpa using il) (by unfold scanBound; omega) fun g tk c R le k => ?_
  have R2 := R
  obtain ⟨o, es, ep, t, ho, _, _, ge, nd, hm, _, _, hn, _⟩ := R2
  refine ⟨.ref _, _, I.laid (t' := tk) k (Nat.le_refl _) (setO_new R), rfl, q _ c (es.toList.map keyOf) (I.hok.fresh (Nat.le_refl _)) nd (fun j => ?_) (by rw [List.length_map, Array.length_toList]; exact hn)⟩
  rw [← hm j]
  simp
/-- len of a set of ints -/
def rLenS (w : World) : List V → Hp → VK → Prop := fun vs H Q => ∃ (a : Addr) (S : Int → Bool) (n : Nat), vs = [V.ref a] ∧ H a = some (SetO w a S n) ∧ Q (.int (n : Int)) H
theorem call_lenS : CallR X (.builtin "len") (rLenS X.w) := by
  intro pins s σ H vs us Q I r h
  obtain ⟨a, S, n, rfl, ha, q⟩ := h
  rw [Vals.ref1 r]
  obtain ⟨o, es, ep, t, ho, hex, hd, _, _, _, hb, hf, hn, _⟩ := setO_get I ha
  have lt : (es.size : Int) < 2 ^ 63 := by unfold scanBound at hb; omega
  exact call_len_set ho hex hd hf lt ⟨.int (n : Int), H, I.tok _, ⟨_, by rw [hn]⟩, q⟩
end
end L2
end
section
set_option Elab.async false
set_option linter.all false
set_option maxRecDepth 100000
set_option maxHeartbeats 4000000
namespace Rw
open PySem PySem.Spec PyProof.Rows L2
open Vapatd (blockOf)
open Vapatb (needs)
/-! ### a step brought behind a row -/
section
variable {K : PySem.W.Frag} {mg : Str → Option Value}
def spWithout (K : PySem.W.Frag) : Sp := fun vs H Q _ => ∃ v w p l, vs = [v, w] ∧ StepV K H v p ∧ RowV K H w l ∧ l.length ≤ 1000 ∧ ∀ r H', Same H H' → OptV (RowN K H H') r ((bh p l).map fun z => z.1) → Q r H'
theorem ok_row_without (T : Tx K mg) : Ok K mg 7 ("row_without", none) ["step", "row"] (spWithout K) := by
  refine mk_ok T e_row_without rfl rfl sc_row_without (fun _ _ _ _ _ _ us hl => match us, hl with | [_, _], _ => rfl) (fun vs H Q E h => ?_) (fun P w base f cdv A outer s H vs Q E hr h => ?_)
  · obtain ⟨v, w, p, l, rfl, _⟩ := h; rfl
  · obtain ⟨v, w2, q, l, rfl, hq, ⟨a, ws, rfl, ha, hws⟩, hl, fin⟩ := h
    refine ⟨_, (pss_cons (ps_set (i := 2) sc_row_without.nd rfl (Or.inl rfl) (pe_lst pa_nil)) (pss_cons (ps_for PassesOwn.never rfl (pi_list (pv 1)) (pg_name (i := 3) sc_row_without.nd rfl (Or.inl rfl)) (pss_cons (ps_set (i := 4) sc_row_without.nd rfl (Or.inl rfl) (pe_f (ok_commuted T) (g_commuted T) (hr.mono (by decide)) (pa_cons (pv 0) (pa_cons (pv 3) pa_nil)))) (pss_cons (ps_if (pt_cmpR op_isN (pv 4) pe_non (nomark _)) (pss_one (ps_ret pe_non)) pss_nil) (pss_cons (ps_expr (pe_bm PySem.F.plainAttrs_list PySem.F.slot_list_append PySem.F.type_list_append mt_append (pv 2) (pa_cons (pe_ix ix_tup (pv 4) pe_int (fun _ _ => rfl)) pa_nil))) (pss_one (ps_set (i := 0) sc_row_without.nd rfl (Or.inl rfl) (pe_ix ix_tup (pv 4) pe_int (fun _ _ => rfl)))))))) (pss_one (ps_ret (pv 2))))), ?_⟩
    have lw := pr_len hws
    refine ⟨by show 0 ≤ sizeLine; decide, fun p hp => ?_⟩
    have s0 := same_new (o := .lst []) hp
    refine ⟨_, rfl, a, rfl, ⟨_, SqL.of (s0 _ _ ha)⟩, for_list (K := K) (a := a) (xs := ws) (fun i σ H' => ∃ u x3 x4 q' acc l', σ = [some u, some (V.ref a), some (V.ref p), x3, x4] ∧ Same H H' ∧ H' p = some (.lst acc) ∧ bh q (l.take i) = some (l', q') ∧ StepV K H' u q' ∧ StepsV K H' acc l')
      ⟨v, none, none, q, [], [], rfl, s0, upd_same, bh_nil q, hq.same s0, .nil⟩ (fun i σ H' _ ⟨_, _, _, _, _, _, _, s', _⟩ => SqL.of (s' _ _ ha)) ?_ ?_⟩
    · rintro i x σ H' hx ⟨u, x3, x4, q', acc, l', rfl, s', hacc, ea, hu, hs⟩
      obtain ⟨st, hst, hsv⟩ := pr_get hws hx
      have lb := bh_len ea
      rw [List.length_take] at lb
      refine ⟨_, rfl, _, rfl, u, x, q', st, rfl, hu, hsv.same s', trivial, fun r H2 s2 g2 => ?_⟩
      cases ec : VapatBase.commuted q' st with
      | none =>
        rw [ec] at g2
        cases (show r = .non from g2)
        refine ⟨_, rfl, rfl, _, rfl, ite2 (fun _ => ?_) (fun c => absurd (decide_eq_true rfl) c)⟩
        exact fin _ _ (s'.trans s2) (by rw [bh_stop ea hst ec]; rfl)
      | some r2 =>
        rw [ec] at g2
        obtain ⟨b, y1, y2, rfl, hb, h1, h2⟩ := g2
        have hacc2 := s2 _ _ hacc
        have la := pr_len hs
        refine ⟨_, rfl, rfl, _, rfl, ite2 (fun c => (isN_no rfl c).elim) (fun _ => ?_)⟩
        refine ⟨_, rfl, .inl ⟨rfl, _, SqL.of hacc2⟩, _, rfl, b, _, _, y1, rfl, rfl, SqT.of hb, rfl, p, acc, y1, rfl, rfl, hacc2, by rw [la]; exact Nat.lt_of_le_of_lt (show _ ≤ 1000 by omega) (by decide), ?_⟩
        have hb2 : upd H2 p (.lst (acc ++ [y1])) b = some (.tup [y1, y2]) := by
          rw [upd_ne (ne_of hb hacc2 (fun z => by cases z))]
          exact hb
        refine ⟨_, rfl, b, _, _, y2, rfl, rfl, SqT.of hb2, rfl, ?_⟩
        refine ⟨y2, some x, some (V.ref b), r2.2, acc ++ [y1], l' ++ [r2.1], rfl, same_mut (s'.trans s2) hp, upd_same, bh_go ea hst ec, StepV.upd h2 hacc2, ?_⟩
        exact pr_app (StepsV.upd (StepsV.same s2 hs) hacc2) (.cons (StepV.upd h1 hacc2) .nil)
    · rintro σ H' ⟨u, x3, x4, q', acc, l', rfl, s', hacc, ea, hu, hs⟩
      rw [lw, List.take_length] at ea
      rw [ea] at fin
      exact ⟨_, rfl, fin _ _ s' ⟨p, acc, rfl, hp, hacc, hs⟩⟩
end
end Rw
end
section
set_option Elab.async false
set_option linter.all false
set_option maxRecDepth 100000
set_option maxHeartbeats 4000000
namespace Rw
open PySem PySem.Spec PyProof.Rows L2
open Vapatd (blockOf)
open Vapatb (needs)
/-! ### blocks -/
abbrev fBlock : List Str := ["steps", "places"]
theorem l_steps {v0 v1 : V} : List.lookup ("steps" : Str) [("steps", v0), ("places", v1)] = some v0 := lk1
theorem l_places {v0 v1 : V} : List.lookup ("places" : Str) [("steps", v0), ("places", v1)] = some v1 := (lk2 (by decide +kernel)).trans (lk1)
def BlockV (K : PySem.W.Frag) (H : Hp) (v : V) (b : List PStep × List Nat) : Prop := ∃ x dx s p, v = .ref x ∧ H x = some (.ins (He.ga K "Block") dx [("steps", .ref s), ("places", .ref p)]) ∧ RowV K H (.ref s) b.1 ∧ H p = some (.lst (toks b.2))
theorem BlockV.same {K : PySem.W.Frag} {H H' : Hp} {v : V} {b : List PStep × List Nat} (s : Same H H') (h : BlockV K H v b) : BlockV K H' v b := by
  obtain ⟨x, dx, sa, p, e, h1, h2, h3⟩ := h
  exact ⟨x, dx, sa, p, e, s _ _ h1, h2.same s, s _ _ h3⟩
/-- a block whose lists are not at D -/
def BlockB (K : PySem.W.Frag) (D : Addr) (H : Hp) (v : V) (b : List PStep × List Nat) : Prop := ∃ x dx s p, v = .ref x ∧ H x = some (.ins (He.ga K "Block") dx [("steps", .ref s), ("places", .ref p)]) ∧ RowB K D H (.ref s) b.1 ∧ p ≠ D ∧ H p = some (.lst (toks b.2))
theorem BlockB.same {K : PySem.W.Frag} {D : Addr} {H H' : Hp} {v : V} {b : List PStep × List Nat} (h : BlockB K D H v b) (s : Same H H') : BlockB K D H' v b := by
  obtain ⟨x, dx, sa, p, e, h1, h2, n, h3⟩ := h
  exact ⟨x, dx, sa, p, e, s _ _ h1, h2.same s, n, s _ _ h3⟩
theorem BlockB.upd {K : PySem.W.Frag} {D : Addr} {H : Hp} {v : V} {b : List PStep × List Nat} {xs : List V} {o : HO} (h : BlockB K D H v b) (hD : H D = some (.lst xs)) : BlockB K D (L2.upd H D o) v b := by
  obtain ⟨x, dx, sa, p, e, h1, h2, n, h3⟩ := h
  exact ⟨x, dx, sa, p, e, by rw [upd_ne (ne_of h1 hD (fun z => by cases z))]; exact h1, h2.upd hD, n, by rw [upd_ne n]; exact h3⟩
theorem BlockB.block {K : PySem.W.Frag} {D : Addr} {H : Hp} {v : V} {b : List PStep × List Nat} (h : BlockB K D H v b) : BlockV K H v b := by
  obtain ⟨x, dx, sa, p, e, h1, h2, n, h3⟩ := h
  exact ⟨x, dx, sa, p, e, h1, h2.row, h3⟩
/-- what a row's step needs, and it, with its places -/
def blk (row : List PStep) (i : Nat) : List PStep × List Nat := (blockOf row i, i :: (needs row i).reverse)
section
variable {K : PySem.W.Frag} {mg : Str → Option Value}
theorem ok_Block_init (T : Tx K mg) : Ok K mg 1 ("Block", some "__init__") ["self", "steps", "places"] (spInit (He.ga K "Block") fBlock) := by
  refine mk_ok T e_Block_init rfl rfl sc_Block_init (fun _ _ _ _ _ _ us hl => match us, hl with | [_, _, _], _ => rfl) (fun vs H Q E h => ?_) (fun P w base f cdv A outer s H vs Q E hr h => ?_)
  · obtain ⟨x, dx, ws, rfl, hl, _⟩ := h
    rw [List.length_cons, hl]; rfl
  · obtain ⟨x, dx, ws, rfl, hl, hx, q⟩ := h
    match ws, hl with
    | [v1, v2], _ =>
      refine ⟨_, (pss_cons (ps_fld (pv 0) (pv 1) rfl) (pss_one (ps_fld (pv 0) (pv 2) rfl))), ?_⟩
      refine ⟨_, rfl, _, rfl, x, _, dx, _, rfl, hx, c_Block T, n_Block_steps T, (by show 0 < 1000; decide), ?_⟩
      refine ⟨_, rfl, _, rfl, x, _, dx, _, rfl, upd_same, c_Block T, n_Block_places T, (by show 1 < 1000; decide), ?_⟩
      simp only [upd_upd]
      have e : putF "places" v2 (putF "steps" v1 []) = (fBlock : List Str).zip [v1, v2] := by
        rw [show putF "steps" v1 [] = (["steps"] : List Str).zip [v1] from rfl, putF_zip rfl (by decide +kernel)]
        all_goals rfl
      rw [← e] at q
      exact q
def spBlockOf (K : PySem.W.Frag) : Sp := fun vs H Q _ => ∃ v l i, vs = [v, .int ((i : Nat) : Int)] ∧ RowV K H v l ∧ l.length ≤ 100 ∧ i < l.length ∧ ∀ r H', Same H H' → (∀ D o, H D = some o → BlockB K D H' r (blk l i)) → Q r H'
theorem ok_block_of (T : Tx K mg) : Ok K mg 8 ("block_of", none) ["row", "place"] (spBlockOf K) := by
  refine mk_ok T e_block_of rfl rfl sc_block_of (fun _ _ _ _ _ _ us hl => match us, hl with | [_, _], _ => rfl) (fun vs H Q E h => ?_) (fun P w base f cdv A outer s H vs Q E hr h => ?_)
  · obtain ⟨v, l, i, rfl, _⟩ := h; rfl
  · obtain ⟨v, row, place, rfl, ⟨a, ws, rfl, ha, hws⟩, hl, hi, fin⟩ := h
    refine ⟨_, (pss_cons (ps_set (i := 2) sc_block_of.nd rfl (Or.inl rfl) (pe_lst (pa_cons (pe_ix ix_list (pv 0) (pv 1) (fun _ _ => rfl)) pa_nil))) (pss_cons (ps_set (i := 3) sc_block_of.nd rfl (Or.inl rfl) (pe_lst (pa_cons (pv 1) pa_nil))) (pss_cons (ps_for PassesOwn.never rfl (pi_range3 (by rfl) (z_range T) (pa_cons (pe_op op_sub (pv 1) pe_int) (pa_cons (pe_un un_neg pe_int) (pa_cons (pe_un un_neg pe_int) pa_nil)))) (pg_name (i := 4) sc_block_of.nd rfl (Or.inl rfl)) (pss_cons (ps_set (i := 5) sc_block_of.nd rfl (Or.inl rfl) (pe_f (ok_row_without T) (g_row_without T) (hr.mono (by decide)) (pa_cons (pe_ix ix_list (pv 0) (pv 4) (fun _ _ => rfl)) (pa_cons (pv 2) pa_nil)))) (pss_one (ps_if (pt_cmpR op_isN (pv 5) pe_non (nomark _)) (pss_cons (ps_set (i := 2) sc_block_of.nd rfl (Or.inl rfl) (pe_op op_cat (pe_lst (pa_cons (pe_ix ix_list (pv 0) (pv 4) (fun _ _ => rfl)) pa_nil)) (pv 2))) (pss_one (ps_expr (pe_bm PySem.F.plainAttrs_list PySem.F.slot_list_append PySem.F.type_list_append mt_append (pv 3) (pa_cons (pv 4) pa_nil))))) (pss_one (ps_set (i := 2) sc_block_of.nd rfl (Or.inl rfl) (pv 5))))))) (pss_one (ps_ret (pe_mk (ok_Block_init T) (k_Block T) (g_Block T) (hr.mono (by decide)) (pa_cons (pv 2) (pa_cons (pv 3) pa_nil)))))))), ?_⟩
    have lw := pr_len hws
    have at_ : ∀ j, j < row.length → ∃ p y, row[j]? = some p ∧ ws[j]? = some y ∧ StepV K H y p := fun j hj => by
      have hy : ws[j]? = some (ws[j]'(by omega)) := List.getElem?_eq_getElem (by omega)
      obtain ⟨p, hp, hv⟩ := pr_get hws hy
      exact ⟨p, _, hp, hy, hv⟩
    obtain ⟨q, y, hq, hy, hyq⟩ := at_ place hi
    refine ⟨_, rfl, _, rfl, a, _, _, y, rfl, rfl, SqL.of ha, atI_nat hy, by show 1 ≤ sizeLine; decide, fun sa hsa => ?_⟩
    have s1 := same_new (o := .lst [y]) hsa
    refine ⟨_, rfl, by show 1 ≤ sizeLine; decide, fun pa hpa => ?_⟩
    have s2 := same_new (o := .lst [V.int (place : Int)]) hpa
    have hpa0 : H pa = none := none_of s1 hpa
    have rg : RgC ((place : Int) - 1) (-1) (-1) place := by
      have h := RgC.neg (i := (place : Int) - 1) (j := -1) (by omega) (by omega) (by omega) (by omega)
      rw [show ((place : Int) - 1 - (-1)).toNat = place by omega] at h
      exact h
    refine ⟨_, rfl, _, _, rfl, rfl, _, rfl, _, rfl, _, _, _, _, rfl, rg, for_rangeC (lo := (place : Int) - 1) (c := -1) (n := place)
      (fun t σ H' => ∃ (x4 x5 : Option V) (sa : Addr) (s : List PStep) (k : List Nat), σ = [some (V.ref a), some (V.int (place : Int)), some (V.ref sa), some (V.ref pa), x4, x5] ∧ Same H H' ∧ RowB K pa H' (.ref sa) s ∧ H' pa = some (.lst (toks (place :: k.reverse))) ∧ BK row place s k (place - t) ∧ s.length ≤ t + 1 ∧ k.length ≤ t ∧ H sa = none)
      ⟨none, none, sa, [q], [], rfl, s1.trans s2, ⟨sa, [y], rfl, ne_of_none upd_same hpa, s2 _ _ upd_same, .cons ((hyq.same s1).same s2) .nil⟩, upd_same, bk_start hq, Nat.le_refl _, Nat.le_refl _, hsa⟩ ?_ ?_⟩
    · rintro t σ H' ht ⟨x4, x5, sa, s, k, rfl, s', hsr, hp', bk, ls, lk, hsn⟩
      have e : (place : Int) - 1 + (t : Int) * -1 = ((place - 1 - t : Nat) : Int) := by omega
      rw [e]
      obtain ⟨x, z, hx, hz, hzx⟩ := at_ (place - 1 - t) (by omega)
      have bk2 : BK row place s k ((place - 1 - t) + 1) := by
        rw [show place - 1 - t + 1 = place - t by omega]
        exact bk
      refine ⟨_, rfl, _, rfl, a, _, _, z, rfl, rfl, SqL.of (s' _ _ ha), atI_nat hz, _, rfl, z, _, x, s, rfl, hzx.same s', hsr.row, by omega, fun r H2 s2 g2 => ?_⟩
      have s3 := s'.trans s2
      cases ec : bh x s with
      | none =>
        rw [ec] at g2
        cases (show r = .non from g2)
        have bn := bk_stay bk2 hx ec
        obtain ⟨sa', vs, e1, ne, hs1, hs2⟩ := hsr.same s2
        cases e1
        refine ⟨_, rfl, rfl, _, rfl, ite2 (fun _ => ?_) (fun c => absurd (decide_eq_true rfl) c)⟩
        refine ⟨_, rfl, _, rfl, a, _, _, z, rfl, rfl, SqL.of (s3 _ _ ha), atI_nat hz, by show 1 ≤ sizeLine; decide, fun p1 hp1 => ?_⟩
        have s4 := same_new (o := .lst [z]) hp1
        have lvs := pr_len hs2
        refine ⟨_, rfl, p1, sa, _, _, rfl, rfl, upd_same, s4 _ _ hs1, Nat.le_trans (show _ ≤ 1000 by rw [List.length_singleton]; omega) (by decide), fun p2 hp2 => ?_⟩
        have s5 := same_new (o := .lst ([z] ++ vs)) hp2
        have hpa5 := s5 _ _ (s4 _ _ (s2 _ _ hp'))
        have ne2 : p2 ≠ pa := (ne_of_none (s4 _ _ (s2 _ _ hp')) hp2).symm
        refine ⟨_, rfl, .inl ⟨rfl, _, SqL.of hpa5⟩, _, rfl, pa, _, _, rfl, rfl, hpa5, Nat.lt_of_le_of_lt (show _ ≤ 1000 by rw [List.length_map, List.length_cons, List.length_reverse]; omega) (by decide), ?_⟩
        refine ⟨_, _, p2, x :: s, (place - 1 - t) :: k, rfl, same_mut ((s3.trans s4).trans s5) hpa0, ⟨p2, [z] ++ vs, rfl, ne2, by rw [upd_ne ne2]; exact upd_same, StepsV.upd (.cons (((hzx.same s3).same s4).same s5) ((hs2.same s4).same s5)) hpa5⟩, ?_, ?_, by rw [List.length_cons]; omega, by rw [List.length_cons]; omega, none_of (s3.trans s4) hp2⟩
        · rw [upd_same]
          simp [toks]
        · rw [show place - (t + 1) = place - 1 - t by omega]
          exact bn
      | some r2 =>
        rw [ec] at g2
        have bn := bk_go bk2 hx ec
        obtain ⟨c, vs, rfl, hc0, hc, hcs⟩ := g2
        have nc : c ≠ pa := fun z => by rw [z, hp'] at hc0; cases hc0
        refine ⟨_, rfl, rfl, _, rfl, ite2 (fun c => (isN_no rfl c).elim) (fun _ => ?_)⟩
        refine ⟨_, rfl, ?_⟩
        refine ⟨_, _, c, r2.1, k, rfl, s3, ⟨c, vs, rfl, nc, hc, hcs⟩, s2 _ _ hp', ?_, by rw [bh_len (l1 := r2.1) (p1 := r2.2) ec]; omega, by omega, none_of s' hc0⟩
        rw [show place - (t + 1) = place - 1 - t by omega]
        exact bn
    · rintro σ H' ⟨x4, x5, sa, s, k, rfl, s', hsr, hp', bk, ls, lk, hsn⟩
      rw [Nat.sub_self] at bk
      obtain ⟨rfl, rfl⟩ := bk_end bk
      obtain ⟨sa', vs, e1, _, hs1, hs2⟩ := hsr
      cases e1
      refine ⟨_, rfl, _, rfl, make_read rfl fun x dx H2 s2 _ hx => fin _ _ (s'.trans s2) fun D o hD => ⟨x, dx, sa, pa, rfl, hx, ⟨sa, vs, rfl, fun z => ?_, s2 _ _ hs1, hs2.same s2⟩, fun z => ?_, s2 _ _ hp'⟩⟩
      · rw [z, hD] at hsn; cases hsn
      · rw [z, hD] at hpa0; cases hpa0
/-- the blocks of a row -/
def BlocksV (K : PySem.W.Frag) (H : Hp) (v : V) (l : List PStep) : Prop := ∃ a vs, v = .ref a ∧ H a = some (.lst vs) ∧ Paired (fun v i => BlockV K H v (blk l i)) vs (List.range l.length)
theorem BlocksV.same {K : PySem.W.Frag} {H H' : Hp} {v : V} {l : List PStep} (s : Same H H') (h : BlocksV K H v l) : BlocksV K H' v l := by
  obtain ⟨a, vs, e, h1, h2⟩ := h
  exact ⟨a, vs, e, s _ _ h1, Paired.mapP h2 fun _ _ z => z.same s⟩
def spBlocksOf (K : PySem.W.Frag) : Sp := fun vs H Q _ => ∃ v l, vs = [v] ∧ RowV K H v l ∧ l.length ≤ 100 ∧ ∀ r H', Same H H' → BlocksV K H' r l → Q r H'
theorem ok_blocks_of (T : Tx K mg) : Ok K mg 9 ("blocks_of", none) ["row"] (spBlocksOf K) := by
  refine mk_ok T e_blocks_of rfl rfl sc_blocks_of (fun _ _ _ _ _ _ us hl => match us, hl with | [_], _ => rfl) (fun vs H Q E h => ?_) (fun P w base f cdv A outer s H vs Q E hr h => ?_)
  · obtain ⟨v, l, rfl, _⟩ := h; rfl
  · obtain ⟨v, l, rfl, ⟨a, ws, rfl, ha, hws⟩, hl, fin⟩ := h
    refine ⟨_, (pss_one (ps_ret (pe_lc (own := [("place", 1)]) (g := gName 1) (by rfl) sc_blocks_of.nd (pi_range1 (by rfl) (z_range T) (pa_cons (pe_callB call_len_seq (by rfl) (z_len T) (by decide +kernel) (pa_cons (pv 0) pa_nil)) pa_nil)) (blkOk_by (own := [("place", 1)]) (N := nm_blocks_of) (sc := defScope s_blocks_of) (by decide +kernel)) (fun _ _ _ _ _ => pg_name (i := 1) sc_blocks_of.nd rfl (Or.inl rfl)) (fun _ _ _ _ _ => pts_nil) (fun _ _ _ _ _ => (pe_f (ok_block_of T) (g_block_of T) (hr.mono (by decide)) (pa_cons (pv 0) (pa_cons (pv 1) pa_nil))))))), ?_⟩
    have lw := pr_len hws
    refine ⟨_, rfl, a, _, rfl, .inl (SqL.of ha), (ws.length : Int), rfl, by omega, by omega, fun D hD => lc_it (L2.walk_range (lo := 0) (n := ws.length)) (fun i Hc => ∃ vs, Hc D = some (.lst vs) ∧ Same H Hc ∧ Paired (fun v i => BlockB K D Hc v (blk l i)) vs (List.range i))
      ⟨[], upd_same, same_new hD, .nil⟩ (fun _ _ _ _ => trivial) ?_ ?_⟩
    · rintro i y Hc Hy hi ⟨vs, hacc, s', hv⟩ ⟨rfl, rfl⟩
      have e0 : (fun (i : Nat) => V.int (0 + (i : Int))) i = V.int (i : Int) := congrArg V.int (by omega)
      rw [e0]
      refine ⟨rfl, ?_⟩
      have hRow : RowV K Hy (.ref a) l := ⟨a, ws, rfl, s' _ _ ha, StepsV.same s' hws⟩
      refine ⟨_, rfl, _, rfl, _, l, i, rfl, hRow, hl, by omega, fun r H2 s2 g => ?_⟩
      have la := pr_len hv
      rw [List.length_range] at la
      have hacc2 := s2 _ _ hacc
      refine ⟨vs, hacc2, Nat.lt_of_le_of_lt (show _ ≤ 100 by omega) (by decide), vs ++ [r], upd_same, same_mut (s'.trans s2) hD, ?_⟩
      rw [List.range_succ]
      exact pr_app (Paired.mapP hv fun _ _ z => (z.same s2).upd hacc2) (.cons ((g D _ hacc).upd hacc2) .nil)
    · rintro Hc ⟨vs, hacc, s', hv⟩
      rw [lw] at hv
      exact fin _ _ s' ⟨D, vs, rfl, hacc, Paired.mapP hv fun _ _ z => z.block⟩
end
end Rw
end
section
set_option Elab.async false
set_option linter.all false
set_option maxRecDepth 100000
set_option maxHeartbeats 4000000
namespace Rw
open PySem PySem.Spec PyProof.Rows L2
open Vapatd (blockOf conflict allConflicts rowsMerged)
open Vapatb (needs)
/-! ### pairs of places -/
def PairZ (H : Hp) (v : V) (x : Nat × Nat) : Prop := ∃ t, v = .ref t ∧ H t = some (.tup [.int (x.1 : Int), .int (x.2 : Int)])
theorem PairZ.same {H H' : Hp} {v : V} {x : Nat × Nat} (s : Same H H') (h : PairZ H v x) : PairZ H' v x := by
  obtain ⟨t, e, h⟩ := h
  exact ⟨t, e, s _ _ h⟩
theorem PairZ.upd {H : Hp} {v : V} {x : Nat × Nat} {a : Addr} {xs : List V} {o : HO} (h : PairZ H v x) (ha : H a = some (.lst xs)) : PairZ (L2.upd H a o) v x := by
  obtain ⟨t, e, h⟩ := h
  exact ⟨t, e, by rw [upd_ne (ne_of h ha (fun z => by cases z))]; exact h⟩
def PairsZ (H : Hp) (v : V) (l : List (Nat × Nat)) : Prop := ∃ a vs, v = .ref a ∧ H a = some (.lst vs) ∧ Paired (PairZ H) vs l
theorem PairsZ.same {H H' : Hp} {v : V} {l : List (Nat × Nat)} (s : Same H H') (h : PairsZ H v l) : PairsZ H' v l := by
  obtain ⟨a, vs, e, h1, h2⟩ := h
  exact ⟨a, vs, e, s _ _ h1, Paired.mapP h2 fun _ _ z => z.same s⟩
section
variable {K : PySem.W.Frag} {mg : Str → Option Value}
def spPairs (K : PySem.W.Frag) : Sp := fun vs H Q _ => ∃ v w l m, vs = [v, w] ∧ BlocksV K H v l ∧ BlocksV K H w m ∧ l.length ≤ 100 ∧ m.length ≤ 100 ∧ ∀ r H', Same H H' → PairsZ H' r (allConflicts l m) → Q r H'
theorem ok_conflicting_pairs (T : Tx K mg) : Ok K mg 10 ("conflicting_pairs", none) ["blocks", "other_blocks"] (spPairs K) := by
  refine mk_ok T e_conflicting_pairs rfl rfl sc_conflicting_pairs (fun _ _ _ _ _ _ us hl => match us, hl with | [_, _], _ => rfl) (fun vs H Q E h => ?_) (fun P w base f cdv A outer s H vs Q E hr h => ?_)
  · obtain ⟨v, w, l, m, rfl, _⟩ := h; rfl
  · obtain ⟨v, w2, l, m, rfl, ⟨a, ws, rfl, ha, hws⟩, ⟨b, us, rfl, hb, hus⟩, hl, hm, fin⟩ := h
    refine ⟨_, (pss_cons (ps_set (i := 2) sc_conflicting_pairs.nd rfl (Or.inl rfl) (pe_lst pa_nil)) (pss_cons (ps_for PassesOwn.never rfl (pi_enum (by rfl) (z_enumerate T) (pa_cons (pv 0) pa_nil)) (pg_tup rfl (pgs_cons (pg_name (i := 3) sc_conflicting_pairs.nd rfl (Or.inl rfl)) (pgs_cons (pg_name (i := 4) sc_conflicting_pairs.nd rfl (Or.inl rfl)) pgs_nil))) (pss_one (ps_for PassesOwn.never rfl (pi_enum (by rfl) (z_enumerate T) (pa_cons (pv 1) pa_nil)) (pg_tup rfl (pgs_cons (pg_name (i := 5) sc_conflicting_pairs.nd rfl (Or.inl rfl)) (pgs_cons (pg_name (i := 6) sc_conflicting_pairs.nd rfl (Or.inl rfl)) pgs_nil))) (pss_one (ps_if (pt_cmpR op_isN (pe_f (ok_merged T) (g_merged T) (hr.mono (by decide)) (pa_cons (pe_fld (pv 4) rfl) (pa_cons (pe_fld (pv 6) rfl) pa_nil))) pe_non (nomark _)) (pss_one (ps_expr (pe_bm PySem.F.plainAttrs_list PySem.F.slot_list_append PySem.F.type_list_append mt_append (pv 2) (pa_cons (pe_tup (pa_cons (pv 3) (pa_cons (pv 5) pa_nil))) pa_nil)))) pss_nil))))) (pss_one (ps_ret (pv 2))))), ?_⟩
    have lw : ws.length = l.length := by rw [pr_len hws, List.length_range]
    have lu : us.length = m.length := by rw [pr_len hus, List.length_range]
    have small : ∀ i, i ≤ l.length → ∀ j, j ≤ m.length → (confTo l m i ++ confRow l m i j).length ≤ 20000 := fun i hi j hj => by
      have h1 : (confTo l m i).length ≤ i * m.length := by
        clear fin hws hus lw lu
        induction i with
        | zero => simp [confTo]
        | succ n ih =>
          have ih := ih (by omega)
          rw [confTo_more, List.length_append, Nat.succ_mul]
          have : (confRow l m n m.length).length ≤ m.length := by
            unfold confRow
            rw [List.length_map]
            exact Nat.le_trans (List.length_filter_le _ _) (by simp)
          omega
      have h2 : (confRow l m i j).length ≤ j := by
        unfold confRow
        rw [List.length_map]
        exact Nat.le_trans (List.length_filter_le _ _) (by simp)
      have h3 : i * m.length ≤ 100 * 100 := Nat.mul_le_mul (by omega) hm
      rw [List.length_append]
      omega
    refine ⟨by show 0 ≤ sizeLine; decide, fun p hp => ?_⟩
    have s0 := same_new (o := .lst []) hp
    refine ⟨_, rfl, a, ws, rfl, SqL.of (s0 _ _ ha), for_it (walk_enum (K := K) (a := a) (xs := ws)) (fun i σ H' => ∃ x3 x4 x5 x6 acc, σ = [some (V.ref a), some (V.ref b), some (V.ref p), x3, x4, x5, x6] ∧ Same H H' ∧ H' p = some (.lst acc) ∧ Paired (PairZ H') acc (confTo l m i))
      ⟨none, none, none, none, [], rfl, s0, upd_same, .nil⟩ (fun i σ H' _ ⟨_, _, _, _, _, _, s', _⟩ => SqL.of (s' _ _ ha)) ?_ ?_⟩
    · rintro i x σ H1 H2 hi ⟨x3, x4, x5, x6, acc, rfl, s', hacc, hv⟩ ⟨t1, z1, y, rfl, ht1, rfl, e1, ey⟩
      cases e1
      have s2 := same_new (o := .tup [V.int (i : Int), y]) ht1
      obtain ⟨i', hi', hy⟩ := pr_get hws ey
      have ei : i' = i := by
        have hil : i < l.length := by omega
        rw [List.getElem?_range hil] at hi'
        exact (Option.some.inj hi').symm
      subst ei
      refine ⟨t1, _, rfl, SqT.of upd_same, rfl, _, _, rfl, _, _, rfl, rfl, ?_⟩
      refine ⟨_, rfl, b, us, rfl, SqL.of (s2 _ _ (s' _ _ hb)), for_it (walk_enum (K := K) (a := b) (xs := us)) (fun j σ H' => ∃ x5 x6 acc, σ = [some (V.ref a), some (V.ref b), some (V.ref p), some (V.int (i' : Int)), some y, x5, x6] ∧ Same H H' ∧ H' p = some (.lst acc) ∧ Paired (PairZ H') acc (confTo l m i' ++ confRow l m i' j))
        ⟨x5, x6, acc, rfl, s'.trans s2, s2 _ _ hacc, ?_⟩ (fun i σ H' _ ⟨_, _, _, _, s', _⟩ => SqL.of (s' _ _ hb)) ?_ ?_⟩
      · have e0 : confTo l m i' ++ confRow l m i' 0 = confTo l m i' := by simp [confRow]
        rw [e0]
        exact Paired.mapP hv fun _ _ z => z.same s2
      · clear hv hacc x5 x6 acc s2 ht1
        rintro j x σ H3 H4 hj ⟨x5, x6, acc, rfl, s', hacc, hv⟩ ⟨t2, z2, y2, rfl, ht2, rfl, e2, ey2⟩
        cases e2
        have s2 := same_new (o := .tup [V.int (j : Int), y2]) ht2
        obtain ⟨j', hj', hy2⟩ := pr_get hus ey2
        have ej : j' = j := by
          have hjl : j < m.length := by omega
          rw [List.getElem?_range hjl] at hj'
          exact (Option.some.inj hj').symm
        subst ej
        have s3 := s'.trans s2
        refine ⟨t2, _, rfl, SqT.of upd_same, rfl, _, _, rfl, _, _, rfl, rfl, ?_⟩
        obtain ⟨b1, d1, q1, p1, rfl, hb1, hr1, _⟩ := hy.same s3
        obtain ⟨b2, d2, q2, p2, rfl, hb2, hr2, _⟩ := hy2.same s3
        have lb1 := blockOf_len l i'
        have lb2 := blockOf_len m j'
        refine ⟨_, rfl, b1, _, d1, _, _, rfl, hb1, c_Block T, n_Block_steps T, l_steps, _, rfl, b2, _, d2, _, _, rfl, hb2, c_Block T, n_Block_steps T, l_steps, _, _, _, _, rfl, hr1, by show (blockOf l i').length ≤ 1000; omega, hr2, by show (blockOf m j').length ≤ 1000; omega, fun r H5 s5 g => ?_⟩
        have sm := small i' (by omega) j' (by omega)
        have la := pr_len hv
        cases ec : rowsMerged (blk l i').1 (blk m j').1 with
        | none =>
          have hc : conflict l m i' j' = true := by
            show (rowsMerged (blk l i').1 (blk m j').1).isNone = true
            rw [ec]
            rfl
          rw [ec] at g
          cases (show r = .non from g)
          refine ⟨rfl, _, rfl, ite2 (fun _ => ?_) (fun c => absurd (decide_eq_true rfl) c)⟩
          have hacc5 := s5 _ _ (s2 _ _ hacc)
          refine ⟨_, rfl, .inl ⟨rfl, _, SqL.of hacc5⟩, _, rfl, _, rfl, by show 2 ≤ sizeLine; decide, fun t ht => ?_⟩
          have s6 := same_new (o := .tup [V.int (i' : Int), V.int (j' : Int)]) ht
          refine ⟨p, acc, _, rfl, rfl, s6 _ _ hacc5, Nat.lt_of_le_of_lt (show _ ≤ 20000 by omega) (by decide), ?_⟩
          refine ⟨_, _, acc ++ [V.ref t], rfl, same_mut ((s3.trans s5).trans s6) hp, upd_same, ?_⟩
          rw [confRow_yes hc, ← List.append_assoc]
          have hacc6 := s6 _ _ hacc5
          exact pr_app (Paired.mapP hv fun _ _ z => (((z.same s2).same s5).same s6).upd hacc6) (.cons (PairZ.upd ⟨t, rfl, upd_same⟩ hacc6) .nil)
        | some r2 =>
          have hc : conflict l m i' j' = false := by
            show (rowsMerged (blk l i').1 (blk m j').1).isNone = false
            rw [ec]
            rfl
          rw [ec] at g
          obtain ⟨c, y1, y2, rfl, _⟩ := g
          refine ⟨rfl, _, rfl, ite2 (fun c => (isN_no rfl c).elim) (fun _ => ?_)⟩
          refine ⟨_, _, acc, rfl, s3.trans s5, s5 _ _ (s2 _ _ hacc), ?_⟩
          rw [confRow_no hc]
          exact Paired.mapP hv fun _ _ z => (z.same s2).same s5
      · rintro σ H3 ⟨x5, x6, acc, rfl, s', hacc, hv⟩
        refine ⟨_, _, _, _, acc, rfl, s', hacc, ?_⟩
        rw [confTo_more, ← lu]
        exact hv
    · rintro σ H' ⟨x3, x4, x5, x6, acc, rfl, s', hacc, hv⟩
      rw [lw, conf_all] at hv
      exact ⟨_, rfl, fin _ _ s' ⟨p, acc, rfl, hacc, hv⟩⟩
end
end Rw
end
section
set_option Elab.async false
set_option linter.all false
set_option maxRecDepth 100000
set_option maxHeartbeats 4000000
namespace Rw
open PySem PySem.Spec PyProof.Rows L2
open Vapatd (blockOf conflict allConflicts rowsMerged)
open Vapatb (needs)
theorem pr_to {α β : Type} {R : α → β → Prop} : ∀ {xs : List α} {ys : List β} {i : Nat} {y : β}, Paired R xs ys → ys[i]? = some y → ∃ x, xs[i]? = some x ∧ R x y
  | _, _, _, _, .nil, e => by simp at e
  | _, _, 0, _, .cons r _, e => by simp at e; subst e; exact ⟨_, rfl, r⟩
  | _, _, i + 1, y, .cons _ t, e => by
    obtain ⟨x, h1, h2⟩ := pr_to (i := i) (y := y) t (by simpa using e)
    exact ⟨x, by simpa using h1, h2⟩
theorem flat_toks (l : List Nat) : (toks l).all flatV = true := by
  rw [toks, List.all_map]
  exact List.all_eq_true.mpr fun _ _ => rfl
theorem inV_toks (n : Nat) (l : List Nat) : inV (V.int (n : Int)) (toks l) = l.contains n := by
  have e : toks l = (l.map fun (n : Nat) => (n : Int)).map V.int := by rw [List.map_map]; rfl
  rw [e, inV_ints, Bool.eq_iff_iff, List.contains_iff_mem, List.contains_iff_mem, List.mem_map]
  constructor
  · rintro ⟨y, hy, e⟩
    have : y = n := by omega
    exact this ▸ hy
  · intro h
    exact ⟨n, h, rfl⟩
theorem in_blk (l : List PStep) (i n : Nat) : (blk l i).2.contains n = (i :: needs l i).contains n := by
  show (i :: (needs l i).reverse).contains n = _
  rw [Bool.eq_iff_iff, List.contains_iff_mem, List.contains_iff_mem, List.mem_cons, List.mem_cons, List.mem_reverse]
/-- a block of the blocks -/
theorem block_at {K : PySem.W.Frag} {H : Hp} {vs : List V} {l : List PStep} {i : Nat} (h : Paired (fun v i => BlockV K H v (blk l i)) vs (List.range l.length)) (hi : i < l.length) : ∃ v, vs[i]? = some v ∧ BlockV K H v (blk l i) :=
  pr_to (R := fun v i => BlockV K H v (blk l i)) h (List.getElem?_range hi)
theorem filter_more {α : Type} {l : List α} {i : Nat} {x : α} {P : α → Bool} (h : l[i]? = some x) : (l.take (i + 1)).filter P = (l.take i).filter P ++ (if P x = true then [x] else []) := by
  rw [take_more h, List.filter_append]
  by_cases c : P x = true <;> simp [c]
section
variable {K : PySem.W.Frag} {mg : Str → Option Value}
def spFirsts (K : PySem.W.Frag) : Sp := fun vs H Q _ => ∃ v w l m, vs = [v, w] ∧ RowV K H v l ∧ RowV K H w m ∧ l.length ≤ 100 ∧ m.length ≤ 100 ∧ ∀ r H', Same H H' → PairsZ H' r (Vapatd.conflicts l m) → Q r H'
theorem ok_first_conflicts (T : Tx K mg) : Ok K mg 11 ("first_conflicts", none) ["row", "other"] (spFirsts K) := by
  refine mk_ok T e_first_conflicts rfl rfl sc_first_conflicts (fun _ _ _ _ _ _ us hl => match us, hl with | [_, _], _ => rfl) (fun vs H Q E h => ?_) (fun P w base f cdv A outer s H vs Q E hr h => ?_)
  · obtain ⟨v, w, l, m, rfl, _⟩ := h; rfl
  · obtain ⟨v, w2, l, m, rfl, hv, hw, hl, hm, fin⟩ := h
    refine ⟨_, (pss_cons (ps_set (i := 2) sc_first_conflicts.nd rfl (Or.inl rfl) (pe_f (ok_blocks_of T) (g_blocks_of T) (hr.mono (by decide)) (pa_cons (pv 0) pa_nil))) (pss_cons (ps_set (i := 3) sc_first_conflicts.nd rfl (Or.inl rfl) (pe_f (ok_blocks_of T) (g_blocks_of T) (hr.mono (by decide)) (pa_cons (pv 1) pa_nil))) (pss_cons (ps_set (i := 4) sc_first_conflicts.nd rfl (Or.inl rfl) (pe_f (ok_conflicting_pairs T) (g_conflicting_pairs T) (hr.mono (by decide)) (pa_cons (pv 2) (pa_cons (pv 3) pa_nil)))) (pss_cons (ps_set (i := 5) sc_first_conflicts.nd rfl (Or.inl rfl) (pe_lst pa_nil)) (pss_cons (ps_for PassesOwn.never rfl (pi_list (pv 4)) (pg_name (i := 6) sc_first_conflicts.nd rfl (Or.inl rfl)) (pss_cons (ps_set (i := 7) sc_first_conflicts.nd rfl (Or.inr rfl) (pe_fld (pe_ix ix_list (pv 2) (pe_ix ix_tup (pv 6) pe_int (fun _ _ => rfl)) (fun _ _ => rfl)) rfl)) (pss_cons (ps_set (i := 8) sc_first_conflicts.nd rfl (Or.inr rfl) (pe_fld (pe_ix ix_list (pv 3) (pe_ix ix_tup (pv 6) pe_int (fun _ _ => rfl)) (fun _ _ => rfl)) rfl)) (pss_one (ps_if (pt_cmpR op_eq (pe_callB call_len_seq (by rfl) (z_len T) (by decide +kernel) (pa_cons (pe_lc (tt := (tAnd (tTest (tOp (rIn K false) (tOp (rIxT K) (tVar 9) (tC (.int 0))) (tVar 7))) (tTest (tOp (rIn K false) (tOp (rIxT K) (tVar 9) (tC (.int 1))) (tVar 8))))) (own := [("one", 9)]) (g := gName 9) (by rfl) sc_first_conflicts.nd (pi_list (pv 4)) (blkOk_by (own := [("one", 9)]) (N := nm_first_conflicts) (sc := defScope s_first_conflicts) (by decide +kernel)) (fun _ _ _ _ _ => pg_name (i := 9) sc_first_conflicts.nd rfl (Or.inl rfl)) (fun _ _ _ _ _ => (pts_one (PW.pt (pw_and (pt_cmpR op_in_seq (pe_ix ix_tup (pv 9) pe_int (fun _ _ => rfl)) (pv 7) (by rfl)) (pw_and1 (pt_cmpR op_in_seq (pe_ix ix_tup (pv 9) pe_int (fun _ _ => rfl)) (pv 8) (by rfl))))))) (fun _ _ _ _ _ => (pv 9))) pa_nil)) pe_int (nomark _)) (pss_one (ps_expr (pe_bm PySem.F.plainAttrs_list PySem.F.slot_list_append PySem.F.type_list_append mt_append (pv 5) (pa_cons (pv 6) pa_nil)))) pss_nil))))) (pss_one (ps_ret (pv 5)))))))), ?_⟩
    refine ⟨_, rfl, v, l, rfl, hv, hl, fun r1 H1 s1 g1 => ?_⟩
    refine ⟨_, rfl, w2, m, rfl, hw.same s1, hm, fun r2 H2 s2 g2 => ?_⟩
    refine ⟨_, rfl, _, rfl, r1, r2, l, m, rfl, g1.same s2, g2, hl, hm, fun r3 H3 s3 g3 => ?_⟩
    obtain ⟨ba, bvs, rfl, hba, hbv⟩ := (g1.same s2).same s3
    obtain ⟨bb, bus, rfl, hbb, hbu⟩ := g2.same s3
    obtain ⟨pa, ws, rfl, hpa, hpv⟩ := g3
    have s13 := (s1.trans s2).trans s3
    clear s1 s2 s3 g1 g2 hv hw
    have few := conf_len l m
    have few2 : l.length * m.length ≤ 100 * 100 := Nat.mul_le_mul hl hm
    have lw := pr_len hpv
    refine ⟨by show 0 ≤ sizeLine; decide, fun p hp => ?_⟩
    have s0 := same_new (o := .lst []) hp
    refine ⟨_, rfl, pa, rfl, ⟨_, SqL.of (s0 _ _ hpa)⟩, for_list (K := K) (a := pa) (xs := ws) (fun i σ H' => ∃ x6 x7 x8 acc, σ = [some v, some w2, some (V.ref ba), some (V.ref bb), some (V.ref pa), some (V.ref p), x6, x7, x8, none] ∧ Same H3 H' ∧ H' p = some (.lst acc) ∧ Paired (PairZ H') acc (((allConflicts l m).take i).filter fun x => decide (((allConflicts l m).filter (inBoth l m x)).length = 1)))
      ⟨none, none, none, [], rfl, s0, upd_same, .nil⟩ (fun i σ H' _ ⟨_, _, _, _, _, s', _⟩ => SqL.of (s' _ _ hpa)) ?_ ?_⟩
    · rintro i y σ H' hy ⟨x6, x7, x8, acc, rfl, s', hacc, hv⟩
      obtain ⟨x, hx, t, rfl, ht⟩ := pr_get hpv hy
      have ix : i < (allConflicts l m).length := (List.getElem?_eq_some_iff.mp hx).1
      have hm1 := mem_conf.mp (List.mem_of_getElem? hx)
      obtain ⟨v1, hv1, b1, d1, q1, p1, rfl, hb1, _, hp1⟩ := block_at hbv hm1.1
      obtain ⟨v2, hv2, b2, d2, q2, p2, rfl, hb2, _, hp2⟩ := block_at hbu hm1.2.1
      have hp1 := s' _ _ hp1
      have hp2 := s' _ _ hp2
      refine ⟨_, rfl, _, rfl, t, _, _, _, rfl, rfl, SqT.of (s' _ _ ht), rfl, ba, _, _, _, rfl, rfl, SqL.of (s' _ _ hba), atI_nat hv1, b1, _, d1, _, _, rfl, s' _ _ hb1, c_Block T, n_Block_places T, l_places, ?_⟩
      refine ⟨_, rfl, _, rfl, t, _, _, _, rfl, rfl, SqT.of (s' _ _ ht), rfl, bb, _, _, _, rfl, rfl, SqL.of (s' _ _ hbb), atI_nat hv2, b2, _, d2, _, _, rfl, s' _ _ hb2, c_Block T, n_Block_places T, l_places, ?_⟩
      refine ⟨_, rfl, pa, rfl, ⟨_, SqL.of (s' _ _ hpa)⟩, fun D hD => lc_it (L2.walk_list (K := K) (a := pa) (xs := ws)) (fun k Hc => ∃ bs, Hc D = some (.lst bs) ∧ Same H' Hc ∧ bs.length = (((allConflicts l m).take k).filter (inBoth l m x)).length)
        ⟨[], upd_same, same_new hD, rfl⟩ (fun k Hc _ ⟨_, _, s2, _⟩ => SqL.of (s2 _ _ (s' _ _ hpa))) ?_ ?_⟩
      · rintro k z Hc Hy hk ⟨bs, hbs, s2, hlen⟩ ⟨rfl, hz⟩
        obtain ⟨y, hyk, t2, rfl, ht2⟩ := pr_get hpv hz
        have ht3 := s2 _ _ (s' _ _ ht2)
        have fm := filter_more (P := inBoth l m x) hyk
        have eb : inBoth l m x y = (inV (V.int (y.1 : Int)) (toks (blk l x.1).2) && inV (V.int (y.2 : Int)) (toks (blk m x.2).2)) := by
          rw [inV_toks, inV_toks, in_blk, in_blk]
          rfl
        have out : inBoth l m x y = false → ∃ bs, Hy D = some (.lst bs) ∧ Same H' Hy ∧ bs.length = (((allConflicts l m).take (k + 1)).filter (inBoth l m x)).length := fun e => by
          refine ⟨bs, hbs, s2, ?_⟩
          rw [fm, e, hlen]
          simp
        refine ⟨rfl, ?_⟩
        refine ⟨_, rfl, t2, _, _, _, rfl, rfl, SqT.of ht3, rfl, _, rfl, p1, _, rfl, .inl (SqL.of (s2 _ _ hp1)), rfl, flat_toks _, _, rfl, ?_⟩
        refine ite2 (fun c1 => ?_) (fun c1 => ?_)
        · have c1 : inV (V.int (y.1 : Int)) (toks (blk l x.1).2) = true := c1
          refine ⟨_, rfl, t2, _, _, _, rfl, rfl, SqT.of ht3, rfl, _, rfl, p2, _, rfl, .inl (SqL.of (s2 _ _ hp2)), rfl, flat_toks _, _, rfl, ?_⟩
          refine ite2 (fun c2 => ?_) (fun c2 => ?_)
          · have c2 : inV (V.int (y.2 : Int)) (toks (blk m x.2).2) = true := c2
            refine ⟨_, rfl, bs, hbs, Nat.lt_of_le_of_lt (show _ ≤ 20000 from ?_) (by decide), bs ++ [V.ref t2], upd_same, same_mut s2 hD, ?_⟩
            · rw [hlen]
              refine Nat.le_trans (List.length_filter_le _ _) ?_
              rw [List.length_take]
              omega
            · rw [fm, if_pos (by rw [eb, c1, c2]; rfl), List.length_append, List.length_append, hlen]
              rfl
          · have c2 : ¬ inV (V.int (y.2 : Int)) (toks (blk m x.2).2) = true := c2
            exact out (by rw [eb, Bool.eq_false_iff.mpr c2, Bool.and_false])
        · have c1 : ¬ inV (V.int (y.1 : Int)) (toks (blk l x.1).2) = true := c1
          refine (if_neg (by decide)).mpr ?_
          exact out (by rw [eb, Bool.eq_false_iff.mpr c1, Bool.false_and])
      · rintro Hc ⟨bs, hbs, s2, hlen⟩
        rw [lw, List.take_length] at hlen
        have s12 := s'.trans s2
        have hacc2 := s2 _ _ hacc
        have la := pr_len hv
        have lf : ((((allConflicts l m).take i).filter fun x => decide (((allConflicts l m).filter (inBoth l m x)).length = 1))).length ≤ 10000 := by
          refine Nat.le_trans (List.length_filter_le _ _) ?_
          rw [List.length_take]
          omega
        have fm := filter_more (P := fun x => decide (((allConflicts l m).filter (inBoth l m x)).length = 1)) hx
        refine ⟨D, bs, rfl, .inl (SqL.of hbs), rfl, _, rfl, ?_⟩
        rw [eq_int]
        refine ite2 (fun c => ?_) (fun c => ?_)
        · have c := of_decide_eq_true c
          rw [if_pos (decide_eq_true (by omega))] at fm
          refine ⟨_, rfl, .inl ⟨rfl, _, SqL.of hacc2⟩, _, rfl, p, acc, _, rfl, rfl, hacc2, Nat.lt_of_le_of_lt (show _ ≤ 10000 by omega) (by decide), ?_⟩
          refine ⟨_, _, _, acc ++ [V.ref t], rfl, same_mut s12 hp, upd_same, ?_⟩
          rw [fm]
          exact pr_app (Paired.mapP hv fun _ _ z => (z.same s2).upd hacc2) (.cons (PairZ.upd ⟨t, rfl, s12 _ _ ht⟩ hacc2) .nil)
        · have c := of_decide_eq_false (Bool.eq_false_iff.mpr c)
          rw [if_neg (fun z => c (by have := of_decide_eq_true z; omega)), List.append_nil] at fm
          refine ⟨_, _, _, acc, rfl, s12, hacc2, ?_⟩
          rw [fm]
          exact Paired.mapP hv fun _ _ z => z.same s2
    · rintro σ H' ⟨x6, x7, x8, acc, rfl, s', hacc, hv⟩
      rw [lw, List.take_length, ← firsts_eq] at hv
      exact ⟨_, rfl, fin _ _ (s13.trans s') ⟨p, acc, rfl, hacc, hv⟩⟩
end
end Rw
end
section
set_option Elab.async false
set_option linter.all false
set_option maxRecDepth 100000
set_option maxHeartbeats 4000000
namespace Rw
open PySem PySem.Spec PyProof.Rows L2
open Vapatd (blockOf conflict allConflicts rowsMerged leftOut1 leftOut2)
open Vapatb (needs)
theorem pr_take {α β : Type} {R : α → β → Prop} : ∀ {xs : List α} {ys : List β} (n : Nat), Paired R xs ys → Paired R (xs.take n) (ys.take n)
  | _, _, _, .nil => by simp; exact .nil
  | _, _, 0, .cons _ _ => .nil
  | _, _, n + 1, .cons r t => .cons r (pr_take n t)
theorem pr_drop {α β : Type} {R : α → β → Prop} : ∀ {xs : List α} {ys : List β} (n : Nat), Paired R xs ys → Paired R (xs.drop n) (ys.drop n)
  | _, _, _, .nil => by simp; exact .nil
  | _, _, 0, .cons r t => .cons r t
  | _, _, n + 1, .cons _ t => pr_drop n t
theorem cut_toV (xs : List V) (k : Nat) : cutV xs none (some (k : Int)) = xs.take k := by
  unfold cutV
  rw [HT.sIx_none, HT.sIx_nat, List.drop_zero, Nat.sub_zero]
  rcases Nat.le_total k xs.length with h | h
  · rw [Nat.min_eq_left h]
  · rw [Nat.min_eq_right h, List.take_length, List.take_of_length_le h]
theorem cut_fromV (xs : List V) (k : Nat) : cutV xs (some (k : Int)) none = xs.drop k := by
  unfold cutV
  rw [HT.sIx_none, HT.sIx_nat]
  rcases Nat.le_total k xs.length with h | h
  · rw [Nat.min_eq_left h, List.take_of_length_le (by rw [List.length_drop]; omega)]
  · rw [Nat.min_eq_right h, List.drop_length, List.drop_of_length_le h]
    simp
section
variable {K : PySem.W.Frag} {mg : Str → Option Value}
/-- few unlike numbers below a bound -/
theorem unlike_few {L ns : List Int} {n : Nat} (hn : L.Nodup) (h : ∀ k, k ∈ L ↔ k ∈ ns) (hb : ∀ k ∈ ns, ∃ j : Nat, j < n ∧ k = (j : Int)) : L.length ≤ n := by
  have := nodup_few (ns := (List.range n).map fun (j : Nat) => (j : Int)) hn fun k hk => by
    obtain ⟨j, hj, rfl⟩ := hb k ((h k).mp hk)
    exact List.mem_map.mpr ⟨j, List.mem_range.mpr hj, rfl⟩
  simpa using this
theorem ints_toks (l : List Nat) : (l.map fun (n : Nat) => (n : Int)).map V.int = toks l := by rw [List.map_map]; rfl
/-- the first, the second numbers of the pairs -/
def fz (l m : List PStep) : List Int := (allConflicts l m).map fun (x : Nat × Nat) => (x.1 : Int)
def sz (l m : List PStep) : List Int := (allConflicts l m).map fun (x : Nat × Nat) => (x.2 : Int)
def StepsZ (H : Hp) (v : V) (l m : List PStep) : Prop := ∃ t a b, v = .ref t ∧ H t = some (.tup [.ref a, .ref b]) ∧ H a = some (.lst (toks (leftOut1 l m))) ∧ H b = some (.lst (toks (leftOut2 l m)))
def spConflicting (K : PySem.W.Frag) : Sp := fun vs H Q _ => ∃ v w l m, vs = [v, w] ∧ RowV K H v l ∧ RowV K H w m ∧ l.length ≤ 8 ∧ m.length ≤ 8 ∧ ∀ r H', Same H H' → StepsZ H' r l m → Q r H'
theorem ok_conflicting_steps (T : Tx K mg) : Ok K mg 11 ("conflicting_steps", none) ["row", "other"] (spConflicting K) := by
  refine mk_ok T e_conflicting_steps rfl rfl sc_conflicting_steps (fun _ _ _ _ _ _ us hl => match us, hl with | [_, _], _ => rfl) (fun vs H Q E h => ?_) (fun P w base f cdv A outer s H vs Q E hr h => ?_)
  · obtain ⟨v, w, l, m, rfl, _⟩ := h; rfl
  · obtain ⟨v, w2, l, m, rfl, hv, hw, hl, hm, fin⟩ := h
    refine ⟨_, (pss_cons (ps_set (i := 2) sc_conflicting_steps.nd rfl (Or.inl rfl) (pe_f (ok_conflicting_pairs T) (g_conflicting_pairs T) (hr.mono (by decide)) (pa_cons (pe_f (ok_blocks_of T) (g_blocks_of T) (hr.mono (by decide)) (pa_cons (pv 0) pa_nil)) (pa_cons (pe_f (ok_blocks_of T) (g_blocks_of T) (hr.mono (by decide)) (pa_cons (pv 1) pa_nil)) pa_nil)))) (pss_one (ps_ret (pe_tup (pa_cons (pe_callB (cr_sortedSet rfl) (by rfl) (z_sorted T) (by decide +kernel) (pa_cons (pe_callTy (cr_setL rfl) (by rfl) (z_set T) (by decide +kernel) (pa_cons (pe_lc (te := (tOp (rIxT K) (tVar 3) (tC (.int 0)))) (own := [("pair", 3)]) (g := gName 3) (by rfl) sc_conflicting_steps.nd (pi_list (pv 2)) (blkOk_by (own := [("pair", 3)]) (N := nm_conflicting_steps) (sc := defScope s_conflicting_steps) (by decide +kernel)) (fun _ _ _ _ _ => pg_name (i := 3) sc_conflicting_steps.nd rfl (Or.inl rfl)) (fun _ _ _ _ _ => pts_nil) (fun _ _ _ _ _ => (pe_ix ix_tup (pv 3) pe_int (fun _ _ => rfl)))) pa_nil)) pa_nil)) (pa_cons (pe_callB (cr_sortedSet rfl) (by rfl) (z_sorted T) (by decide +kernel) (pa_cons (pe_callTy (cr_setL rfl) (by rfl) (z_set T) (by decide +kernel) (pa_cons (pe_lc (te := (tOp (rIxT K) (tVar 3) (tC (.int 1)))) (own := [("pair", 3)]) (g := gName 3) (by rfl) sc_conflicting_steps.nd (pi_list (pv 2)) (blkOk_by (own := [("pair", 3)]) (N := nm_conflicting_steps) (sc := defScope s_conflicting_steps) (by decide +kernel)) (fun _ _ _ _ _ => pg_name (i := 3) sc_conflicting_steps.nd rfl (Or.inl rfl)) (fun _ _ _ _ _ => pts_nil) (fun _ _ _ _ _ => (pe_ix ix_tup (pv 3) pe_int (fun _ _ => rfl)))) pa_nil)) pa_nil)) pa_nil)))))), ?_⟩
    refine ⟨_, rfl, v, l, rfl, hv, by omega, fun r1 H1 s1 g1 => ⟨_, rfl, w2, m, rfl, hw.same s1, by omega, fun r2 H2 s2 g2 => ⟨r1, r2, l, m, rfl, g1.same s2, g2, by omega, by omega, fun r3 H3 s3 g3 => ?_⟩⟩⟩
    obtain ⟨pa, ws, rfl, hpa, hpv⟩ := g3
    have s13 := (s1.trans s2).trans s3
    clear s1 s2 s3 g1 g2 hv hw
    have few := conf_len l m
    have few2 : l.length * m.length ≤ 8 * 8 := Nat.mul_le_mul hl hm
    have lw := pr_len hpv
    have b1 : ∀ k ∈ fz l m, ∃ j : Nat, j < l.length ∧ k = (j : Int) := fun k hk => by
      obtain ⟨x, hx, rfl⟩ := List.mem_map.mp hk
      exact ⟨x.1, (mem_conf.mp hx).1, rfl⟩
    have b2 : ∀ k ∈ sz l m, ∃ j : Nat, j < m.length ∧ k = (j : Int) := fun k hk => by
      obtain ⟨x, hx, rfl⟩ := List.mem_map.mp hk
      exact ⟨x.2, (mem_conf.mp hx).2.1, rfl⟩
    refine ⟨_, rfl, pa, rfl, ⟨_, SqL.of hpa⟩, fun D hD => lc_it (L2.walk_list (K := K) (a := pa) (xs := ws)) (fun k Hc => Hc D = some (.lst (((allConflicts l m).take k).map fun x => V.int (x.1 : Int))) ∧ Same H3 Hc)
        ⟨upd_same, same_new hD⟩ (fun k Hc _ ⟨_, s2⟩ => SqL.of (s2 _ _ hpa)) ?_ ?_⟩
    · rintro k z Hc Hy hk ⟨hbs, s2⟩ ⟨rfl, hz⟩
      obtain ⟨y, hyk, t2, rfl, ht2⟩ := pr_get hpv hz
      refine ⟨rfl, ?_⟩
      refine ⟨_, rfl, t2, _, _, _, rfl, rfl, SqT.of (s2 _ _ ht2), rfl, _, hbs, Nat.lt_of_le_of_lt (show _ ≤ 20000 by rw [List.length_map, List.length_take]; omega) (by decide), ?_, same_mut s2 hD⟩
      rw [upd_same, take_plus hyk, List.map_append]
      rfl
    · rintro H4 ⟨hD, s4⟩
      rw [lw, List.take_length] at hD
      have eD : ((allConflicts l m).map fun x => V.int (x.1 : Int)) = (fz l m).map V.int := by rw [fz, List.map_map]; rfl
      rw [eD] at hD
      refine ⟨D, _, rfl, SqL.of hD, by rw [fz, List.length_map]; omega, fun p5 n5 L5 hp5 nd5 m5 l5 => ?_⟩
      have lf5 := unlike_few nd5 m5 b1
      have s5 := same_new (o := SetO w p5 (fun j => decide (j ∈ fz l m)) n5) hp5
      refine ⟨p5, _, n5, rfl, upd_same, by omega, fun ns6 p6 rise6 m6 _ hp6 => ?_⟩
      have e6 : ns6 = (leftOut1 l m).map fun (n : Nat) => (n : Int) := left1_told rise6 fun k => by rw [m6 k, decide_eq_true_iff]; rfl
      subst e6
      rw [ints_toks]
      have s6 := same_new (o := .lst (toks (leftOut1 l m))) hp6
      have s46 := (s4.trans s5).trans s6
      refine ⟨_, rfl, pa, rfl, ⟨_, SqL.of (s46 _ _ hpa)⟩, fun D2 hD2 => lc_it (L2.walk_list (K := K) (a := pa) (xs := ws)) (fun k Hc => Hc D2 = some (.lst (((allConflicts l m).take k).map fun x => V.int (x.2 : Int))) ∧ Same (upd (upd H4 p5 (SetO w p5 (fun j => decide (j ∈ fz l m)) n5)) p6 (.lst (toks (leftOut1 l m)))) Hc)
          ⟨upd_same, same_new hD2⟩ (fun k Hc _ ⟨_, s2⟩ => SqL.of (s2 _ _ (s46 _ _ hpa))) ?_ ?_⟩
      · rintro k z Hc Hy hk ⟨hbs, s2⟩ ⟨rfl, hz⟩
        obtain ⟨y, hyk, t2, rfl, ht2⟩ := pr_get hpv hz
        refine ⟨rfl, ?_⟩
        refine ⟨_, rfl, t2, _, _, _, rfl, rfl, SqT.of (s2 _ _ (s46 _ _ ht2)), rfl, _, hbs, Nat.lt_of_le_of_lt (show _ ≤ 20000 by rw [List.length_map, List.length_take]; omega) (by decide), ?_, same_mut s2 hD2⟩
        rw [upd_same, take_plus hyk, List.map_append]
        rfl
      · rintro H7 ⟨hD2, s7⟩
        rw [lw, List.take_length] at hD2
        have eD2 : ((allConflicts l m).map fun x => V.int (x.2 : Int)) = (sz l m).map V.int := by rw [sz, List.map_map]; rfl
        rw [eD2] at hD2
        refine ⟨D2, _, rfl, SqL.of hD2, by rw [sz, List.length_map]; omega, fun p8 n8 L8 hp8 nd8 m8 l8 => ?_⟩
        have lf8 := unlike_few nd8 m8 b2
        have s8 := same_new (o := SetO w p8 (fun j => decide (j ∈ sz l m)) n8) hp8
        refine ⟨p8, _, n8, rfl, upd_same, by omega, fun ns9 p9 rise9 m9 _ hp9 => ?_⟩
        have e9 : ns9 = (leftOut2 l m).map fun (n : Nat) => (n : Int) := left2_told rise9 fun k => by rw [m9 k, decide_eq_true_iff]; rfl
        subst e9
        rw [ints_toks]
        have s9 := same_new (o := .lst (toks (leftOut2 l m))) hp9
        have s79 := (s7.trans s8).trans s9
        refine ⟨by show 2 ≤ sizeLine; decide, fun t ht => ?_⟩
        have s10 := same_new (o := .tup [V.ref p6, V.ref p9]) ht
        exact fin _ _ (((s13.trans s46).trans s79).trans s10) ⟨t, p6, p9, rfl, upd_same, s10 _ _ (s79 _ _ upd_same), s10 _ _ upd_same⟩
def spLeft (K : PySem.W.Frag) : Sp := fun vs H Q _ => ∃ v pa ps l m, vs = [v, .ref pa] ∧ RowV K H v l ∧ H pa = some (.lst (toks ps)) ∧ Outs l ps.reverse m ∧ Falls l.length ps.reverse ∧ l.length ≤ 100 ∧ ∀ r H', Same H H' → RowV K H' r m → Q r H'
theorem ok_left_of (T : Tx K mg) : Ok K mg 8 ("left_of", none) ["row", "places"] (spLeft K) := by
  refine mk_ok T e_left_of rfl rfl sc_left_of (fun _ _ _ _ _ _ us hl => match us, hl with | [_, _], _ => rfl) (fun vs H Q E h => ?_) (fun P w base f cdv A outer s H vs Q E hr h => ?_)
  · obtain ⟨v, pa, ps, l, m, rfl, _⟩ := h; rfl
  · obtain ⟨v, pa, ps, l, m, rfl, hv, hpa, ho, hf, hl, fin⟩ := h
    refine ⟨_, (pss_cons (ps_for PassesOwn.never rfl (RT.pi_revA (by rfl) (z_reversed T) (pv 1)) (pg_name (i := 2) sc_left_of.nd rfl (Or.inl rfl)) (pss_one (ps_set (i := 0) sc_left_of.nd rfl (Or.inl rfl) (pe_op op_cat (pe_slice sl_list (pv 0) po_none (po_some (pv 2))) (pe_f (ok_row_without T) (g_row_without T) (hr.mono (by decide)) (pa_cons (pe_ix ix_list (pv 0) (pv 2) (fun _ _ => rfl)) (pa_cons (pe_slice sl_list (pv 0) (po_some (pe_op op_add (pv 2) pe_int)) po_none) pa_nil))))))) (pss_one (ps_ret (pv 0)))), ?_⟩
    have lt : (toks ps).length = ps.length := List.length_map _
    refine ⟨_, rfl, pa, _, rfl, .inl ⟨SqL.of hpa, RT.for_Itv (K := K) (a := pa) (xs := toks ps) (fun t σ H' => ∃ u x2 l', σ = [some u, some (V.ref pa), x2] ∧ Same H H' ∧ RowV K H' u l' ∧ Outs l' (ps.reverse.drop t) m ∧ Falls l'.length (ps.reverse.drop t) ∧ l'.length ≤ 100)
      ⟨v, none, l, rfl, Same.refl _, hv, ho, hf, hl⟩ (fun t σ H' ⟨_, _, _, _, s', _⟩ => SqL.of (s' _ _ hpa)) ?_ ?_⟩⟩
    · rintro t x σ H' ht hx ⟨u, x2, l', rfl, s', ⟨ra, ws, rfl, hra, hws⟩, ho, hf, hl'⟩
      rw [lt] at ht hx
      obtain ⟨k, hk, rfl⟩ : ∃ k, ps[ps.length - 1 - t]? = some k ∧ V.int (k : Int) = x := by
        rw [List.getElem?_map] at hx
        cases e : ps[ps.length - 1 - t]? with
        | none => rw [e] at hx; cases hx
        | some k => rw [e] at hx; exact ⟨k, rfl, Option.some.inj hx⟩
      have hk2 : ps.reverse[t]? = some k := by rw [List.getElem?_reverse (by omega)]; exact hk
      have ed : ps.reverse.drop t = k :: ps.reverse.drop (t + 1) := by
        rw [List.drop_eq_getElem_cons (List.getElem?_eq_some_iff.mp hk2).1, (List.getElem?_eq_some_iff.mp hk2).2]
      rw [ed] at ho hf
      obtain ⟨q, r, hq, hb, ho2, hf2, hl2⟩ := outs_cons ho hf
      obtain ⟨y, hy, hyq⟩ := pr_to hws hq
      refine ⟨_, rfl, _, rfl, _, rfl, ra, _, rfl, SqL.of hra, fun p1 hp1 => ?_⟩
      rw [cut_toV]
      have s1 := same_new (o := .lst (ws.take k)) hp1
      refine ⟨_, rfl, _, rfl, ra, _, _, y, rfl, rfl, SqL.of (s1 _ _ hra), atI_nat hy, _, rfl, _, rfl, _, _, rfl, rfl, _, rfl, ra, _, rfl, SqL.of (s1 _ _ hra), fun p2 hp2 => ?_⟩
      have e2 : ((k : Int) + 1) = ((k + 1 : Nat) : Int) := by omega
      rw [e2, cut_fromV]
      have s2 := same_new (o := .lst (ws.drop (k + 1))) hp2
      have s12 := s1.trans s2
      refine ⟨_, _, q, l'.drop (k + 1), rfl, hyq.same s12, ⟨p2, _, rfl, upd_same, StepsV.same s12 (pr_drop _ hws)⟩, by rw [List.length_drop]; omega, fun r5 H5 s5 g5 => ?_⟩
      rw [hb] at g5
      obtain ⟨c, vs, rfl, _, hc, hcs⟩ := g5
      have lt1 := pr_len (pr_take k hws)
      have lt2 := pr_len hcs
      have lr := bh_len (l1 := r.1) (p1 := r.2) hb
      rw [List.length_append] at hl2
      refine ⟨p1, c, _, _, rfl, rfl, s5 _ _ (s2 _ _ upd_same), hc, Nat.le_trans (show _ ≤ 1000 by rw [lt1, lt2]; show (l'.take k).length + r.1.length ≤ 1000; omega) (by decide), fun p6 hp6 => ?_⟩
      have s6 := same_new (o := .lst (ws.take k ++ vs)) hp6
      have s56 := s5.trans s6
      refine ⟨_, _, l'.take k ++ r.1, rfl, ((s'.trans s12).trans s5).trans s6, ⟨p6, _, rfl, upd_same, pr_app (StepsV.same (s12.trans s56) (pr_take k hws)) (StepsV.same s6 hcs)⟩, ho2, hf2, by rw [List.length_append]; omega⟩
    · rintro σ H' ⟨u, x2, l', rfl, s', hu, ho, hf, hl'⟩
      rw [lt, ← List.length_reverse (as := ps), List.drop_length] at ho
      have e := outs_nil ho
      subst e
      exact ⟨_, rfl, fin _ _ s' hu⟩
end
end Rw
end
section
set_option Elab.async false
set_option linter.all false
set_option maxRecDepth 100000
set_option maxHeartbeats 4000000
namespace Rw
open PySem PySem.Spec PyProof.Rows L2
open VapatBase (fileIn putFile dropFile namesOf flatStep inFile swapAll turnedAll appliedAll flatTree)
theorem flatTree_len {m : Nat} {t : VapatBase.Tree} (h : wfT m t) : (flatTree t).length ≤ 1 + (m + 2) * 10 := by
  have h1 := tell_len (m := m) (t := t) fun x hx => (h.2 x hx).2
  have h2 : (m + 2) * t.length ≤ (m + 2) * 10 := Nat.mul_le_mul_left _ h.len
  have e : (flatTree t).length = (t.flatMap tellFile).length + 1 := rfl
  omega
theorem flatSteps_len {l : List PStep} (h : ∀ p ∈ l, wf p) : (VapatBase.flatSteps l).length ≤ 1 + 21 * l.length := by
  have h1 := flats_len h
  have e : (VapatBase.flatSteps l).length = (l.flatMap flatStep).length + 1 := rfl
  omega
section
variable {K : PySem.W.Frag} {mg : Str → Option Value}
/-- a call that only looks, at two rows -/
def spLook2 (K : PySem.W.Frag) (g : Vapatd.State → Int → Int → List Int) : Sp := fun vs H Q _ => ∃ x F s r q, vs = [.ref x, .int r, .int q] ∧ StoreV K H x F s ∧ ∀ z H', Same H H' → IntsN H H' z (g s r q) → Q z H'
theorem ok_Store_merge (T : Tx K mg) : Ok K mg 11 ("Store", some "merge") ["self", "row", "other"] (spLook2 K fun s r q => (Vapatd.step s (.merge r q)).2) := by
  refine mk_ok T e_Store_merge rfl rfl sc_Store_merge (fun _ _ _ _ _ _ us hl => match us, hl with | [_, _, _], _ => rfl) (fun vs H Q E h => ?_) (fun P w base f cdv A outer s H vs Q E hr h => ?_)
  · obtain ⟨x, F, s, r, q, rfl, _⟩ := h; rfl
  · obtain ⟨x, F, st, r, r2, rfl, hS, q⟩ := h
    refine ⟨_, (pss_cons (ps_set (i := 3) sc_Store_merge.nd rfl (Or.inl rfl) (pe_mp (k := 10) (pv 0) (hr.mono (by decide)) (pa_cons (pv 1) (pa_cons (pv 2) pa_nil)))) (pss_cons (ps_if (pt_cmpR op_lt (pv 3) pe_int (nomark _)) (pss_one (ps_ret (pe_lst (pa_cons (pv 3) pa_nil)))) pss_nil) (pss_cons (ps_set (i := 4) sc_Store_merge.nd rfl (Or.inl rfl) (pe_f (ok_merged T) (g_merged T) (hr.mono (by decide)) (pa_cons (pe_ix ix_list (pe_fld (pv 0) rfl) (pv 1) (fun _ _ => rfl)) (pa_cons (pe_ix ix_list (pe_fld (pv 0) rfl) (pv 2) (fun _ _ => rfl)) pa_nil)))) (pss_cons (ps_if (pt_cmpR op_isN (pv 4) pe_non (nomark _)) (pss_one (ps_ret (pe_lst (pa_cons pe_int pa_nil)))) pss_nil) (pss_one (ps_ret (pe_op op_cat (pe_lst (pa_cons pe_int pa_nil)) (pe_f (ok_tree_told T) (g_tree_told T) (hr.mono (by decide)) (pa_cons (pe_f (ok_tree_after T) (g_tree_after T) (hr.mono (by decide)) (pa_cons (pe_mp (k := 9) (pv 0) (hr.mono (by decide)) (pa_cons (pv 1) pa_nil)) (pa_cons (pe_ix ix_tup (pv 4) pe_int (fun _ _ => rfl)) pa_nil))) pa_nil))))))))), ?_⟩
    have g := hS.good
    obtain ⟨dx, tv, ra, rs, h1, _⟩ := id hS
    have mo := m_ok (c_Store T) (m_Store_refusal_for_two T) (ok_Store_refusal_for_two T)
    refine ⟨_, rfl, _, x, dx, _, _, mo, rfl, h1, lk_no (by decide +kernel) (by decide +kernel) tv ra, _, rfl, _, rfl, x, F, st, r, r2, rfl, hS, fun H2 s12 => ?_⟩
    refine ⟨_, rfl, _, _, rfl, rfl, _, rfl, ?_⟩
    rcases two_rows g r r2 with ⟨c, hf⟩ | ⟨c, t, k, j, l, m, et, rfl, rfl, nkj, hk, hj, hl, hm, ⟨u, hu⟩, ⟨v, hv⟩, hf⟩
    · refine ite2 (fun _ => ⟨_, rfl, one_new s12 fun z H' s' hz => q _ _ s' ?_⟩) (fun c2 => absurd (decide_eq_true c) c2)
      show IntsN H H' z (Vapatd.onRows st r r2 fun t _ a b => (st, match Vapatd.rowsMerged a b with
        | none => [0]
        | some x => 1 :: Vapatd.treeTold t (a ++ x.1))).2
      rw [hf]
      exact hz
    · refine ite2 (fun c2 => ?_) (fun _ => ?_)
      · have := of_decide_eq_true c2
        omega
      have q : ∀ z H', Same H H' → IntsN H H' z (match Vapatd.rowsMerged l m with
        | none => [0]
        | some x => 1 :: Vapatd.treeTold t (l ++ x.1)) → Q z H' := fun z H' s' hz => q z H' s' (by
          show IntsN H H' z (Vapatd.onRows st (k : Int) (j : Int) fun t _ a b => (st, match Vapatd.rowsMerged a b with
            | none => [0]
            | some x => 1 :: Vapatd.treeTold t (a ++ x.1))).2
          rw [hf]
          exact hz)
      have hS2 := hS.same s12
      obtain ⟨dx1, tv1, ra1, rs1, b1, h1', h2', h3', h4', _⟩ := hS2.row hk
      obtain ⟨dx2, tv2, ra2, rs2, b2, h1'', h2'', h3'', h4'', _⟩ := hS2.row hj
      refine ⟨_, rfl, x, _, dx1, _, _, rfl, h1', c_Store T, n_Store_rows T, lk_rows tv1 ra1, _, rfl, ra1, _, _, _, rfl, rfl, SqL.of h2', atI_nat h3', _, rfl, x, _, dx2, _, _, rfl, h1'', c_Store T, n_Store_rows T, lk_rows tv2 ra2, _, rfl, ra2, _, _, _, rfl, rfl, SqL.of h2'', atI_nat h3'', ?_⟩
      refine ⟨.ref b1, .ref b2, l, m, rfl, h4', by omega, h4'', by omega, fun w H3 s3 hw => ?_⟩
      have s13 := s12.trans s3
      cases ec : Vapatd.rowsMerged l m with
      | none =>
        rw [ec] at hw q
        cases (show w = .non from hw)
        refine ⟨_, rfl, rfl, _, rfl, ite2 (fun _ => ?_) (fun c => absurd (decide_eq_true rfl) c)⟩
        exact one_new s13 q
      | some z =>
        rw [ec] at hw q
        obtain ⟨a, y1, y2, rfl, ha, g1, g2⟩ := hw
        refine ⟨_, rfl, rfl, _, rfl, ite2 (fun c => (isN_no rfl c).elim) (fun _ => ?_)⟩
        have mr := (rowsMerged_iff l m z.1 z.2).mp (by rw [ec])
        have w1 := all_wf (good_wf g et) (by obtain ⟨_, _, e, _, w⟩ := h4'; exact w.wf_all) hu
        obtain ⟨u2, hu2, _⟩ := MR_diamond mr (good_wf g et).1 hu hv
        have wz := all_wf w1 (by obtain ⟨_, _, e, _, w⟩ := g1; exact w.wf_all) hu2
        have hz1 : z.1.length = m.length := MR_len_right mr
        refine ⟨by show 1 ≤ sizeLine; decide, fun p1 hp1 => ?_⟩
        have s4 := same_new (o := .lst [V.int 1]) hp1
        have s14 := s13.trans s4
        have mo2 := m_ok (c_Store T) (m_Store_tree_of_row T) (ok_Store_tree_of_row T)
        refine ⟨_, rfl, _, x, dx, _, _, mo2, rfl, s14 _ _ h1, lk_no (by decide +kernel) (by decide +kernel) tv ra, _, rfl, x, F, st, t, k, l, u, rfl, hS.same s14, et, hk, hl, hu, fun v5 H5 s5 hv5 => ?_⟩
        refine ⟨_, rfl, a, _, _, y1, rfl, rfl, SqT.of (s5 _ _ (s4 _ _ ha)), rfl, v5, y1, u, z.1, _, u2, rfl, hv5, (g1.same s4).same s5, w1, by omega, hu2, fun v6 H6 s6 hv6 => ?_⟩
        refine ⟨v6, u2, _, rfl, hv6, wz, by omega, fun v7 H7 s7 hv7 => ?_⟩
        obtain ⟨b7, rfl, hb7, hc7⟩ := hv7
        have s47 := (s5.trans s6).trans s7
        have lf := flatTree_len wz
        refine ⟨p1, b7, _, _, rfl, rfl, s47 _ _ upd_same, hc7, by rw [List.length_map]; exact Nat.le_trans (show _ ≤ 10000 by simp only [List.length_cons, List.length_nil]; omega) (by decide), fun p8 h8 => ?_⟩
        refine q _ _ ((s14.trans s47).trans (same_new h8)) ⟨p8, rfl, none_of (s14.trans s47) h8, ?_⟩
        rw [upd_same]
        show some (HO.lst ([V.int 1] ++ _)) = some (HO.lst ((1 :: Vapatd.treeTold t (l ++ z.1)).map V.int))
        rw [Vapatd.treeTold, (all_append _ _ _ _).mpr ⟨u, hu, hu2⟩]
        rfl
theorem ok_Store_sides (T : Tx K mg) : Ok K mg 11 ("Store", some "sides") ["self", "row", "other"] (spLook2 K fun s r q => (Vapatd.step s (.sides r q)).2) := by
  refine mk_ok T e_Store_sides rfl rfl sc_Store_sides (fun _ _ _ _ _ _ us hl => match us, hl with | [_, _, _], _ => rfl) (fun vs H Q E h => ?_) (fun P w base f cdv A outer s H vs Q E hr h => ?_)
  · obtain ⟨x, F, s, r, q, rfl, _⟩ := h; rfl
  · obtain ⟨x, F, st, r, r2, rfl, hS, q⟩ := h
    refine ⟨_, (pss_cons (ps_set (i := 3) sc_Store_sides.nd rfl (Or.inl rfl) (pe_mp (k := 10) (pv 0) (hr.mono (by decide)) (pa_cons (pv 1) (pa_cons (pv 2) pa_nil)))) (pss_cons (ps_if (pt_cmpR op_lt (pv 3) pe_int (nomark _)) (pss_one (ps_ret (pe_lst (pa_cons (pv 3) pa_nil)))) pss_nil) (pss_cons (ps_set (i := 4) sc_Store_sides.nd rfl (Or.inl rfl) (pe_f (ok_merged T) (g_merged T) (hr.mono (by decide)) (pa_cons (pe_ix ix_list (pe_fld (pv 0) rfl) (pv 1) (fun _ _ => rfl)) (pa_cons (pe_ix ix_list (pe_fld (pv 0) rfl) (pv 2) (fun _ _ => rfl)) pa_nil)))) (pss_cons (ps_if (pt_cmpR op_isN (pv 4) pe_non (nomark _)) (pss_one (ps_ret (pe_lst (pa_cons pe_int pa_nil)))) pss_nil) (pss_one (ps_ret (pe_op op_cat (pe_op op_cat (pe_lst (pa_cons pe_int pa_nil)) (pe_f (ok_row_told T) (g_row_told T) (hr.mono (by decide)) (pa_cons (pe_ix ix_tup (pv 4) pe_int (fun _ _ => rfl)) pa_nil))) (pe_f (ok_row_told T) (g_row_told T) (hr.mono (by decide)) (pa_cons (pe_ix ix_tup (pv 4) pe_int (fun _ _ => rfl)) pa_nil))))))))), ?_⟩
    have g := hS.good
    obtain ⟨dx, tv, ra, rs, h1, _⟩ := id hS
    have mo := m_ok (c_Store T) (m_Store_refusal_for_two T) (ok_Store_refusal_for_two T)
    refine ⟨_, rfl, _, x, dx, _, _, mo, rfl, h1, lk_no (by decide +kernel) (by decide +kernel) tv ra, _, rfl, _, rfl, x, F, st, r, r2, rfl, hS, fun H2 s12 => ?_⟩
    refine ⟨_, rfl, _, _, rfl, rfl, _, rfl, ?_⟩
    rcases two_rows g r r2 with ⟨c, hf⟩ | ⟨c, t, k, j, l, m, et, rfl, rfl, nkj, hk, hj, hl, hm, ⟨u, hu⟩, ⟨v, hv⟩, hf⟩
    · refine ite2 (fun _ => ⟨_, rfl, one_new s12 fun z H' s' hz => q _ _ s' ?_⟩) (fun c2 => absurd (decide_eq_true c) c2)
      show IntsN H H' z (Vapatd.onRows st r r2 fun _ _ a b => (st, match Vapatd.rowsMerged a b with
        | none => [0]
        | some x => 1 :: (VapatBase.flatSteps x.1 ++ VapatBase.flatSteps x.2))).2
      rw [hf]
      exact hz
    · refine ite2 (fun c2 => ?_) (fun _ => ?_)
      · have := of_decide_eq_true c2
        omega
      have q : ∀ z H', Same H H' → IntsN H H' z (match Vapatd.rowsMerged l m with
        | none => [0]
        | some x => 1 :: (VapatBase.flatSteps x.1 ++ VapatBase.flatSteps x.2)) → Q z H' := fun z H' s' hz => q z H' s' (by
          show IntsN H H' z (Vapatd.onRows st (k : Int) (j : Int) fun _ _ a b => (st, match Vapatd.rowsMerged a b with
            | none => [0]
            | some x => 1 :: (VapatBase.flatSteps x.1 ++ VapatBase.flatSteps x.2))).2
          rw [hf]
          exact hz)
      have hS2 := hS.same s12
      obtain ⟨dx1, tv1, ra1, rs1, b1, h1', h2', h3', h4', _⟩ := hS2.row hk
      obtain ⟨dx2, tv2, ra2, rs2, b2, h1'', h2'', h3'', h4'', _⟩ := hS2.row hj
      refine ⟨_, rfl, x, _, dx1, _, _, rfl, h1', c_Store T, n_Store_rows T, lk_rows tv1 ra1, _, rfl, ra1, _, _, _, rfl, rfl, SqL.of h2', atI_nat h3', _, rfl, x, _, dx2, _, _, rfl, h1'', c_Store T, n_Store_rows T, lk_rows tv2 ra2, _, rfl, ra2, _, _, _, rfl, rfl, SqL.of h2'', atI_nat h3'', ?_⟩
      refine ⟨.ref b1, .ref b2, l, m, rfl, h4', by omega, h4'', by omega, fun w H3 s3 hw => ?_⟩
      have s13 := s12.trans s3
      cases ec : Vapatd.rowsMerged l m with
      | none =>
        rw [ec] at hw q
        cases (show w = .non from hw)
        refine ⟨_, rfl, rfl, _, rfl, ite2 (fun _ => ?_) (fun c => absurd (decide_eq_true rfl) c)⟩
        exact one_new s13 q
      | some z =>
        rw [ec] at hw q
        obtain ⟨a, y1, y2, rfl, ha, g1, g2⟩ := hw
        refine ⟨_, rfl, rfl, _, rfl, ite2 (fun c => (isN_no rfl c).elim) (fun _ => ?_)⟩
        have mr := (rowsMerged_iff l m z.1 z.2).mp (by rw [ec])
        have hz1 : z.1.length = m.length := MR_len_right mr
        have hz2 : z.2.length = l.length := MR_len mr
        have f1 := flatSteps_len (l := z.1) (by obtain ⟨_, _, e, _, w⟩ := g1; exact w.wf_all)
        have f2 := flatSteps_len (l := z.2) (by obtain ⟨_, _, e, _, w⟩ := g2; exact w.wf_all)
        refine ⟨by show 1 ≤ sizeLine; decide, fun p1 hp1 => ?_⟩
        have s4 := same_new (o := .lst [V.int 1]) hp1
        have s14 := s13.trans s4
        refine ⟨_, rfl, a, _, _, y1, rfl, rfl, SqT.of (s4 _ _ ha), rfl, y1, z.1, rfl, g1.same s4, by omega, fun v5 H5 s5 hv5 => ?_⟩
        obtain ⟨b5, rfl, hb5, hc5⟩ := hv5
        refine ⟨p1, b5, _, _, rfl, rfl, s5 _ _ upd_same, hc5, by rw [List.length_map]; exact Nat.le_trans (show _ ≤ 10000 by simp only [List.length_cons, List.length_nil]; omega) (by decide), fun p6 h6 => ?_⟩
        have s6 := same_new (o := .lst ([V.int 1] ++ (VapatBase.flatSteps z.1).map V.int)) h6
        have s46 := s5.trans s6
        refine ⟨_, rfl, a, _, _, y2, rfl, rfl, SqT.of (s46 _ _ (s4 _ _ ha)), rfl, y2, z.2, rfl, (g2.same s4).same s46, by omega, fun v7 H7 s7 hv7 => ?_⟩
        obtain ⟨b7, rfl, hb7, hc7⟩ := hv7
        refine ⟨p6, b7, _, _, rfl, rfl, s7 _ _ upd_same, hc7, by rw [List.length_append, List.length_map, List.length_map]; exact Nat.le_trans (show _ ≤ 10000 by simp only [List.length_cons, List.length_nil]; omega) (by decide), fun p8 h8 => ?_⟩
        have s48 := s46.trans s7
        refine q _ _ ((s14.trans s48).trans (same_new h8)) ⟨p8, rfl, none_of (s14.trans s48) h8, ?_⟩
        rw [upd_same]
        simp
end
end Rw
end
section
set_option Elab.async false
set_option linter.all false
set_option maxRecDepth 100000
set_option maxHeartbeats 4000000
namespace Rw
open PySem PySem.Spec PyProof.Rows L2
open VapatBase (fileIn putFile dropFile namesOf flatStep inFile swapAll turnedAll appliedAll flatTree)
open Vapatd (leftOut1 leftOut2)
section
variable {K : PySem.W.Frag} {mg : Str → Option Value}
/-- why conflicts and clean are refused -/
def refC (s : Vapatd.State) (r q : Int) : Int := if refusal s [r, q] = 0 ∧ (8 < ((s.rows[r.toNat]?).getD []).length ∨ 8 < ((s.rows[q.toNat]?).getD []).length) then -6 else refusal s [r, q]
theorem rows_C {s : Vapatd.State} (g : Good s) (r q : Int) : (refC s r q < 0 ∧ ((∀ f, Vapatd.onRows s r q f = (s, [refC s r q])) ∨ (refC s r q = -6 ∧ ∃ t k l m, (8 < l.length ∨ 8 < m.length) ∧ ∀ f, Vapatd.onRows s r q f = f t k l m))) ∨
    (refC s r q = 0 ∧ ∃ t k j l m, s.tree = some t ∧ r = ((k : Nat) : Int) ∧ q = ((j : Nat) : Int) ∧ k ≠ j ∧ s.rows[k]? = some l ∧ s.rows[j]? = some m ∧ l.length ≤ 8 ∧ m.length ≤ 8 ∧ (∃ u, appliedAll t l = some u) ∧ (∃ u, appliedAll t m = some u) ∧ ∀ f, Vapatd.onRows s r q f = f t k l m) := by
  rcases two_rows g r q with ⟨c, hf⟩ | ⟨c, t, k, j, l, m, et, rfl, rfl, nkj, hk, hj, hl, hm, hu, hv, hf⟩
  · have e : refC s r q = refusal s [r, q] := if_neg (fun z => by have := z.1; omega)
    exact .inl ⟨by rw [e]; exact c, .inl fun f => by rw [e]; exact hf f⟩
  · have el : ((s.rows[((k : Nat) : Int).toNat]?).getD []) = l := by rw [Int.toNat_natCast, hk]; rfl
    have em : ((s.rows[((j : Nat) : Int).toNat]?).getD []) = m := by rw [Int.toNat_natCast, hj]; rfl
    by_cases h : 8 < l.length ∨ 8 < m.length
    · have e : refC s k j = -6 := by
        unfold refC
        rw [el, em]
        exact if_pos ⟨c, h⟩
      exact .inl ⟨by rw [e]; decide, .inr ⟨e, t, k, l, m, h, hf⟩⟩
    · have e : refC s k j = 0 := by
        unfold refC
        rw [el, em, if_neg (fun z => h z.2), c]
      exact .inr ⟨e, t, k, j, l, m, et, rfl, rfl, nkj, hk, hj, by omega, by omega, hu, hv, hf⟩
def spRefusal3 (K : PySem.W.Frag) : Sp := fun vs H Q _ => ∃ x F s r q, vs = [.ref x, .int r, .int q] ∧ StoreV K H x F s ∧ ∀ H', Same H H' → Q (.int (refC s r q)) H'
theorem max_gt (i j : Nat) : decide ((if (j : Int) > (i : Int) then (j : Int) else (i : Int)) > 8) = decide (8 < i ∨ 8 < j) := by
  rw [decide_eq_decide]
  split <;> omega
theorem ok_Store_refusal_for_conflicts (T : Tx K mg) : Ok K mg 11 ("Store", some "refusal_for_conflicts") ["self", "row", "other"] (spRefusal3 K) := by
  refine mk_ok T e_Store_refusal_for_conflicts rfl rfl sc_Store_refusal_for_conflicts (fun _ _ _ _ _ _ us hl => match us, hl with | [_, _, _], _ => rfl) (fun vs H Q E h => ?_) (fun P w base f cdv A outer s H vs Q E hr h => ?_)
  · obtain ⟨x, F, s, r, q, rfl, _⟩ := h; rfl
  · obtain ⟨x, F, st, r, r2, rfl, hS, q⟩ := h
    refine ⟨_, (pss_cons (ps_set (i := 3) sc_Store_refusal_for_conflicts.nd rfl (Or.inl rfl) (pe_mp (k := 10) (pv 0) (hr.mono (by decide)) (pa_cons (pv 1) (pa_cons (pv 2) pa_nil)))) (pss_cons (ps_if (PW.pt (pw_and (pt_cmpR op_eq (pv 3) pe_int (nomark _)) (pw_and1 (pt_cmpR op_gt (pe_callB (call_max2 rfl) (by rfl) (z_max T) (by decide +kernel) (pa_cons (pe_callB call_len_seq (by rfl) (z_len T) (by decide +kernel) (pa_cons (pe_ix ix_list (pe_fld (pv 0) rfl) (pv 1) (fun _ _ => rfl)) pa_nil)) (pa_cons (pe_callB call_len_seq (by rfl) (z_len T) (by decide +kernel) (pa_cons (pe_ix ix_list (pe_fld (pv 0) rfl) (pv 2) (fun _ _ => rfl)) pa_nil)) pa_nil))) (pe_gint (i_MOST_STEPS T)) (nomark _))))) (pss_one (ps_ret (pe_gint (i_TOO_MANY T)))) pss_nil) (pss_one (ps_ret (pv 3))))), ?_⟩
    have g := hS.good
    obtain ⟨dx, tv, ra, rs, h1, _⟩ := id hS
    have mo := m_ok (c_Store T) (m_Store_refusal_for_two T) (ok_Store_refusal_for_two T)
    refine ⟨_, rfl, _, x, dx, _, _, mo, rfl, h1, lk_no (by decide +kernel) (by decide +kernel) tv ra, _, rfl, _, rfl, x, F, st, r, r2, rfl, hS, fun H2 s2 => ?_⟩
    refine ⟨_, rfl, rfl, _, rfl, ?_⟩
    rw [eq_int]
    rcases two_rows g r r2 with ⟨c, hf⟩ | ⟨c, t, k, j, l, m, et, rfl, rfl, nkj, hk, hj, hl, hm, _, _, _⟩
    · have e : refC st r r2 = refusal st [r, r2] := if_neg (fun z => by have := z.1; omega)
      rw [e] at q
      exact ite2 (fun c2 => by have := of_decide_eq_true c2; omega) (fun _ => ⟨_, rfl, q _ s2⟩)
    · refine ite2 (fun _ => ?_) (fun c2 => absurd (decide_eq_true c) c2)
      have hS2 := hS.same s2
      obtain ⟨dx1, tv1, ra1, rs1, b1, h1', h2', h3', ⟨_, vs1, eb1, hb1, hv1⟩, _⟩ := hS2.row hk
      obtain ⟨dx2, tv2, ra2, rs2, b2, h1'', h2'', h3'', ⟨_, vs2, eb2, hb2, hv2⟩, _⟩ := hS2.row hj
      cases eb1
      cases eb2
      have l1 := pr_len hv1
      have l2 := pr_len hv2
      refine ⟨_, rfl, x, _, dx1, _, _, rfl, h1', c_Store T, n_Store_rows T, lk_rows tv1 ra1, _, rfl, ra1, _, _, _, rfl, rfl, SqL.of h2', atI_nat h3', b1, _, rfl, .inl (SqL.of hb1), _, rfl, x, _, dx2, _, _, rfl, h1'', c_Store T, n_Store_rows T, lk_rows tv2 ra2, _, rfl, ra2, _, _, _, rfl, rfl, SqL.of h2'', atI_nat h3'', b2, _, rfl, .inl (SqL.of hb2), _, _, rfl, _, _, rfl, rfl, _, rfl, ?_⟩
      rw [max_gt, l1, l2]
      have el : ((st.rows[((k : Nat) : Int).toNat]?).getD []) = l := by rw [Int.toNat_natCast, hk]; rfl
      have em : ((st.rows[((j : Nat) : Int).toNat]?).getD []) = m := by rw [Int.toNat_natCast, hj]; rfl
      unfold refC at q
      rw [el, em] at q
      refine ite2 (fun c2 => ?_) (fun c2 => ?_)
      · rw [if_pos ⟨c, of_decide_eq_true c2⟩] at q
        exact q _ s2
      · rw [if_neg (fun z => c2 (decide_eq_true z.2))] at q
        exact ⟨_, rfl, q _ s2⟩
theorem pairs_told_len (l : List (Nat × Nat)) : (l.flatMap fun x => [Vapatd.int x.1, Vapatd.int x.2]).length = 2 * l.length := by
  induction l with
  | nil => rfl
  | cons x l ih => rw [List.flatMap_cons, List.length_append, ih, List.length_cons]; simp; omega
theorem firsts_len (l m : List PStep) : (Vapatd.conflicts l m).length ≤ l.length * m.length := by
  rw [firsts_eq]
  exact Nat.le_trans (List.length_filter_le _ _) (conf_len l m)
theorem ok_Store_conflicts (T : Tx K mg) : Ok K mg 12 ("Store", some "conflicts") ["self", "row", "other"] (spLook2 K fun s r q => (Vapatd.step s (.conflicts r q)).2) := by
  refine mk_ok T e_Store_conflicts rfl rfl sc_Store_conflicts (fun _ _ _ _ _ _ us hl => match us, hl with | [_, _, _], _ => rfl) (fun vs H Q E h => ?_) (fun P w base f cdv A outer s H vs Q E hr h => ?_)
  · obtain ⟨x, F, s, r, q, rfl, _⟩ := h; rfl
  · obtain ⟨x, F, st, r, r2, rfl, hS, q⟩ := h
    refine ⟨_, (pss_cons (ps_set (i := 3) sc_Store_conflicts.nd rfl (Or.inl rfl) (pe_mp (k := 11) (pv 0) (hr.mono (by decide)) (pa_cons (pv 1) (pa_cons (pv 2) pa_nil)))) (pss_cons (ps_if (pt_cmpR op_lt (pv 3) pe_int (nomark _)) (pss_one (ps_ret (pe_lst (pa_cons (pv 3) pa_nil)))) pss_nil) (pss_cons (ps_set (i := 4) sc_Store_conflicts.nd rfl (Or.inl rfl) (pe_f (ok_first_conflicts T) (g_first_conflicts T) (hr.mono (by decide)) (pa_cons (pe_ix ix_list (pe_fld (pv 0) rfl) (pv 1) (fun _ _ => rfl)) (pa_cons (pe_ix ix_list (pe_fld (pv 0) rfl) (pv 2) (fun _ _ => rfl)) pa_nil)))) (pss_cons (ps_set (i := 5) sc_Store_conflicts.nd rfl (Or.inl rfl) (pe_lst (pa_cons (pe_callB call_len_seq (by rfl) (z_len T) (by decide +kernel) (pa_cons (pv 4) pa_nil)) pa_nil))) (pss_cons (ps_for PassesOwn.never rfl (pi_list (pv 4)) (pg_name (i := 6) sc_Store_conflicts.nd rfl (Or.inl rfl)) (pss_one (ps_expr (pe_bm PySem.F.plainAttrs_list PySem.F.slot_list_extend PySem.F.type_list_extend mt_extendT (pv 5) (pa_cons (pv 6) pa_nil))))) (pss_one (ps_ret (pv 5)))))))), ?_⟩
    have g := hS.good
    obtain ⟨dx, tv, ra, rs, h1, _⟩ := id hS
    have mo := m_ok (c_Store T) (m_Store_refusal_for_conflicts T) (ok_Store_refusal_for_conflicts T)
    refine ⟨_, rfl, _, x, dx, _, _, mo, rfl, h1, lk_no (by decide +kernel) (by decide +kernel) tv ra, _, rfl, _, rfl, x, F, st, r, r2, rfl, hS, fun H2 s12 => ?_⟩
    refine ⟨_, rfl, _, _, rfl, rfl, _, rfl, ?_⟩
    have q : ∀ z H', Same H H' → IntsN H H' z (Vapatd.onRows st r r2 fun _ _ a b => (st, if 8 < a.length ∨ 8 < b.length then [-6] else Vapatd.pairsTold (Vapatd.conflicts a b))).2 → Q z H' := q
    rcases rows_C g r r2 with ⟨c, hf⟩ | ⟨c, t, k, j, l, m, et, rfl, rfl, nkj, hk, hj, hl, hm, ⟨u, hu⟩, ⟨v, hv⟩, hf⟩
    · refine ite2 (fun _ => ⟨_, rfl, one_new s12 fun z H' s' hz => q _ _ s' ?_⟩) (fun c2 => absurd (decide_eq_true c) c2)
      rcases hf with hf | ⟨e, t, k, l, m, h8, hf⟩
      · rw [hf]
        exact hz
      · rw [hf, if_pos h8]
        rw [e] at hz
        exact hz
    · refine ite2 (fun c2 => ?_) (fun _ => ?_)
      · have := of_decide_eq_true c2
        omega
      rw [hf, if_neg (by omega)] at q
      have hS2 := hS.same s12
      obtain ⟨dx1, tv1, ra1, rs1, b1, h1', h2', h3', h4', _⟩ := hS2.row hk
      obtain ⟨dx2, tv2, ra2, rs2, b2, h1'', h2'', h3'', h4'', _⟩ := hS2.row hj
      refine ⟨_, rfl, x, _, dx1, _, _, rfl, h1', c_Store T, n_Store_rows T, lk_rows tv1 ra1, _, rfl, ra1, _, _, _, rfl, rfl, SqL.of h2', atI_nat h3', _, rfl, x, _, dx2, _, _, rfl, h1'', c_Store T, n_Store_rows T, lk_rows tv2 ra2, _, rfl, ra2, _, _, _, rfl, rfl, SqL.of h2'', atI_nat h3'', ?_⟩
      refine ⟨.ref b1, .ref b2, l, m, rfl, h4', h4'', by omega, by omega, fun w H3 s3 hw => ?_⟩
      have s13 := s12.trans s3
      obtain ⟨pa, ws, rfl, hpa, hpv⟩ := hw
      have lw := pr_len hpv
      have few := firsts_len l m
      have few2 : l.length * m.length ≤ 8 * 8 := Nat.mul_le_mul hl hm
      refine ⟨_, rfl, pa, _, rfl, .inl (SqL.of hpa), by show 1 ≤ sizeLine; decide, fun p hp => ?_⟩
      rw [lw]
      have s4 := same_new (o := .lst [V.int ((Vapatd.conflicts l m).length : Int)]) hp
      refine ⟨_, rfl, pa, rfl, ⟨_, SqL.of (s4 _ _ hpa)⟩, for_list (K := K) (a := pa) (xs := ws) (fun i σ H' => ∃ x6, σ = [some (V.ref x), some (V.int (k : Int)), some (V.int (j : Int)), some (V.int (refC st k j)), some (V.ref pa), some (V.ref p), x6] ∧ Same H3 H' ∧
          H' p = some (.lst ((((Vapatd.conflicts l m).length : Int) :: (((Vapatd.conflicts l m).take i).flatMap fun x => [Vapatd.int x.1, Vapatd.int x.2])).map V.int)))
        ⟨none, rfl, s4, upd_same⟩ (fun i σ H' _ ⟨_, _, s', _⟩ => SqL.of (s' _ _ hpa)) ?_ ?_⟩
      · rintro i y σ H' hy ⟨x6, rfl, s', hacc⟩
        obtain ⟨z, hz, t2, rfl, ht2⟩ := pr_get hpv hy
        refine ⟨_, rfl, .inl ⟨rfl, _, SqL.of hacc⟩, _, rfl, p, t2, _, _, rfl, rfl, hacc, s' _ _ ht2, ?_, ?_⟩
        · rw [List.length_map, List.length_cons, pairs_told_len, List.length_take]
          exact Nat.le_trans (show _ ≤ 1000 by simp only [List.length_cons, List.length_nil]; omega) (by decide)
        · refine ⟨_, rfl, same_mut s' hp, ?_⟩
          rw [upd_same, take_plus hz, List.flatMap_append]
          simp
          exact ⟨rfl, rfl⟩
      · rintro σ H' ⟨x6, rfl, s', hacc⟩
        rw [lw, List.take_length] at hacc
        exact ⟨_, rfl, q _ _ (s13.trans s') ⟨p, rfl, none_of s13 hp, hacc⟩⟩
end
end Rw
end
section
set_option Elab.async false
set_option linter.all false
set_option maxRecDepth 100000
set_option maxHeartbeats 4000000
namespace Rw
open PySem PySem.Spec PyProof.Rows L2
open VapatBase (fileIn putFile dropFile namesOf flatStep inFile swapAll turnedAll appliedAll flatTree)
open Vapatd (leftOut1 leftOut2)
section
variable {K : PySem.W.Frag} {mg : Str → Option Value}
theorem ok_Store_clean (T : Tx K mg) : Ok K mg 12 ("Store", some "clean") ["self", "row", "other"] (spLook2 K fun s r q => (Vapatd.step s (.clean r q)).2) := by
  refine mk_ok T e_Store_clean rfl rfl sc_Store_clean (fun _ _ _ _ _ _ us hl => match us, hl with | [_, _, _], _ => rfl) (fun vs H Q E h => ?_) (fun P w base f cdv A outer s H vs Q E hr h => ?_)
  · obtain ⟨x, F, s, r, q, rfl, _⟩ := h; rfl
  · obtain ⟨x, F, st, r, r2, rfl, hS, q⟩ := h
    refine ⟨_, (pss_cons (ps_set (i := 3) sc_Store_clean.nd rfl (Or.inl rfl) (pe_mp (k := 11) (pv 0) (hr.mono (by decide)) (pa_cons (pv 1) (pa_cons (pv 2) pa_nil)))) (pss_cons (ps_if (pt_cmpR op_lt (pv 3) pe_int (nomark _)) (pss_one (ps_ret (pe_lst (pa_cons (pv 3) pa_nil)))) pss_nil) (pss_cons (ps_set (i := 4) sc_Store_clean.nd rfl (Or.inl rfl) (pe_f (ok_conflicting_steps T) (g_conflicting_steps T) (hr.mono (by decide)) (pa_cons (pe_ix ix_list (pe_fld (pv 0) rfl) (pv 1) (fun _ _ => rfl)) (pa_cons (pe_ix ix_list (pe_fld (pv 0) rfl) (pv 2) (fun _ _ => rfl)) pa_nil)))) (pss_cons (ps_set (i := 5) sc_Store_clean.nd rfl (Or.inl rfl) (pe_f (ok_left_of T) (g_left_of T) (hr.mono (by decide)) (pa_cons (pe_ix ix_list (pe_fld (pv 0) rfl) (pv 1) (fun _ _ => rfl)) (pa_cons (pe_ix ix_tup (pv 4) pe_int (fun _ _ => rfl)) pa_nil)))) (pss_cons (ps_set (i := 6) sc_Store_clean.nd rfl (Or.inl rfl) (pe_f (ok_merged T) (g_merged T) (hr.mono (by decide)) (pa_cons (pv 5) (pa_cons (pe_f (ok_left_of T) (g_left_of T) (hr.mono (by decide)) (pa_cons (pe_ix ix_list (pe_fld (pv 0) rfl) (pv 2) (fun _ _ => rfl)) (pa_cons (pe_ix ix_tup (pv 4) pe_int (fun _ _ => rfl)) pa_nil))) pa_nil)))) (pss_cons (ps_set (i := 7) sc_Store_clean.nd rfl (Or.inl rfl) (pe_op op_cat (pe_op op_cat (pe_op op_cat (pe_lst (pa_cons (pe_callB call_len_seq (by rfl) (z_len T) (by decide +kernel) (pa_cons (pe_ix ix_tup (pv 4) pe_int (fun _ _ => rfl)) pa_nil)) pa_nil)) (pe_ix ix_tup (pv 4) pe_int (fun _ _ => rfl))) (pe_lst (pa_cons (pe_callB call_len_seq (by rfl) (z_len T) (by decide +kernel) (pa_cons (pe_ix ix_tup (pv 4) pe_int (fun _ _ => rfl)) pa_nil)) pa_nil))) (pe_ix ix_tup (pv 4) pe_int (fun _ _ => rfl)))) (pss_one (ps_ret (pe_op op_cat (pv 7) (pe_f (ok_tree_told T) (g_tree_told T) (hr.mono (by decide)) (pa_cons (pe_f (ok_tree_after T) (g_tree_after T) (hr.mono (by decide)) (pa_cons (pe_fld (pv 0) rfl) (pa_cons (pe_op op_cat (pv 5) (pe_ix ix_tup (pv 6) pe_int (fun _ _ => rfl))) pa_nil))) pa_nil))))))))))), ?_⟩
    have g := hS.good
    obtain ⟨dx, tv, ra, rs, h1, _, _, _, _, _, h7⟩ := id hS
    have mo := m_ok (c_Store T) (m_Store_refusal_for_conflicts T) (ok_Store_refusal_for_conflicts T)
    refine ⟨_, rfl, _, x, dx, _, _, mo, rfl, h1, lk_no (by decide +kernel) (by decide +kernel) tv ra, _, rfl, _, rfl, x, F, st, r, r2, rfl, hS, fun H2 s12 => ?_⟩
    refine ⟨_, rfl, _, _, rfl, rfl, _, rfl, ?_⟩
    have q : ∀ z H', Same H H' → IntsN H H' z (Vapatd.onRows st r r2 fun t _ a b => (st, if 8 < a.length ∨ 8 < b.length then [-6] else Vapatd.listed (leftOut1 a b) ++ (Vapatd.listed (leftOut2 a b) ++ (match Vapatd.clean a b with
      | none => [-9]
      | some l => Vapatd.treeTold t l)))).2 → Q z H' := q
    rcases rows_C g r r2 with ⟨c, hf⟩ | ⟨c, t, k, j, l, m, et, rfl, rfl, nkj, hk, hj, hl, hm, ⟨u, hu⟩, ⟨v, hv⟩, hf⟩
    · refine ite2 (fun _ => ⟨_, rfl, one_new s12 fun z H' s' hz => q _ _ s' ?_⟩) (fun c2 => absurd (decide_eq_true c) c2)
      rcases hf with hf | ⟨e, t, k, l, m, h8, hf⟩
      · rw [hf]
        exact hz
      · rw [hf, if_pos h8]
        rw [e] at hz
        exact hz
    · refine ite2 (fun c2 => ?_) (fun _ => ?_)
      · have := of_decide_eq_true c2
        omega
      rw [hf, if_neg (by omega)] at q
      rw [et] at h7
      have h7 : TreeV H tv t := h7
      obtain ⟨a0, b0, z, u0, w, o1, o2, em, ecl, hu0, hw0⟩ := clean_told (good_wf g et).1 hu hv
      have f1 : Falls l.length (leftOut1 l m).reverse := falls_of (left1_rise l m) fun i hi => left1_lt hi
      have f2 : Falls m.length (leftOut2 l m).reverse := falls_of (left2_rise l m) fun i hi => left2_lt hi
      have n1 := outs_len o1 f1
      have n2 := outs_len o2 f2
      have l1 := left1_len l m
      have l2 := left2_len l m
      have mr := (rowsMerged_iff a0 b0 z.1 z.2).mp (by rw [em])
      have nz : z.1.length = b0.length := MR_len_right mr
      have happ : appliedAll t (a0 ++ z.1) = some w := (all_append _ _ _ _).mpr ⟨u0, hu0, hw0⟩
      have ecl : Vapatd.clean l m = some (a0 ++ z.1) := ecl
      have q : ∀ z H', Same H H' → IntsN H H' z (Vapatd.listed (leftOut1 l m) ++ (Vapatd.listed (leftOut2 l m) ++ flatTree w)) → Q z H' := fun y H' s' hz => q y H' s' (by
        rw [ecl]
        show IntsN H H' y (Vapatd.listed (leftOut1 l m) ++ (Vapatd.listed (leftOut2 l m) ++ Vapatd.treeTold t (a0 ++ z.1)))
        rw [Vapatd.treeTold, happ]
        exact hz)
      have hS2 := hS.same s12
      obtain ⟨dx1, tv1, ra1, rs1, b1, h1', h2', h3', h4', _⟩ := hS2.row hk
      obtain ⟨dx2, tv2, ra2, rs2, b2, h1'', h2'', h3'', h4'', _⟩ := hS2.row hj
      refine ⟨_, rfl, x, _, dx1, _, _, rfl, h1', c_Store T, n_Store_rows T, lk_rows tv1 ra1, _, rfl, ra1, _, _, _, rfl, rfl, SqL.of h2', atI_nat h3', _, rfl, x, _, dx2, _, _, rfl, h1'', c_Store T, n_Store_rows T, lk_rows tv2 ra2, _, rfl, ra2, _, _, _, rfl, rfl, SqL.of h2'', atI_nat h3'', ?_⟩
      refine ⟨.ref b1, .ref b2, l, m, rfl, h4', h4'', hl, hm, fun w3 H3 s3 hw => ?_⟩
      obtain ⟨tp, pa, pb, rfl, htp, hpa, hpb⟩ := hw
      -- what is left of the first row
      refine ⟨_, rfl, x, _, dx1, _, _, rfl, s3 _ _ h1', c_Store T, n_Store_rows T, lk_rows tv1 ra1, _, rfl, ra1, _, _, _, rfl, rfl, SqL.of (s3 _ _ h2'), atI_nat h3', _, rfl, tp, _, _, _, rfl, rfl, SqT.of htp, rfl, ?_⟩
      refine ⟨.ref b1, pa, leftOut1 l m, l, a0, rfl, h4'.same s3, hpa, o1, f1, by omega, fun r4 H4 s4 g4 => ?_⟩
      -- of the second one
      have s34 := s3.trans s4
      refine ⟨_, rfl, _, rfl, x, _, dx2, _, _, rfl, s34 _ _ h1'', c_Store T, n_Store_rows T, lk_rows tv2 ra2, _, rfl, ra2, _, _, _, rfl, rfl, SqL.of (s34 _ _ h2''), atI_nat h3'', _, rfl, tp, _, _, _, rfl, rfl, SqT.of (s4 _ _ htp), rfl, ?_⟩
      refine ⟨.ref b2, pb, leftOut2 l m, m, b0, rfl, h4''.same s34, s4 _ _ hpb, o2, f2, by omega, fun r5 H5 s5 g5 => ?_⟩
      refine ⟨r4, r5, a0, b0, rfl, g4.same s5, by omega, g5, by omega, fun r6 H6 s6 g6 => ?_⟩
      rw [em] at g6
      obtain ⟨a6, y1, y2, rfl, ha6, k1, k2⟩ := g6
      obtain ⟨la, lv, rfl, hla, hlv⟩ := (g4.same s5).same s6
      obtain ⟨lb, lw, rfl, hlb, hlw⟩ := k1
      have s46 := (s4.trans s5).trans s6
      have s36 := s3.trans s46
      have htp6 := s46 _ _ htp
      have hpa6 := s46 _ _ hpa
      have hpb6 := s46 _ _ hpb
      -- told
      have len1 : (toks (leftOut1 l m)).length = (leftOut1 l m).length := List.length_map _
      have len2 : (toks (leftOut2 l m)).length = (leftOut2 l m).length := List.length_map _
      refine ⟨_, rfl, tp, _, _, _, rfl, rfl, SqT.of htp6, rfl, pa, _, rfl, .inl (SqL.of hpa6), by show 1 ≤ sizeLine; decide, fun p1 hp1 => ?_⟩
      have t1 := same_new (o := .lst [V.int ((toks (leftOut1 l m)).length : Int)]) hp1
      refine ⟨_, rfl, tp, _, _, _, rfl, rfl, SqT.of (t1 _ _ htp6), rfl, p1, pa, _, _, rfl, rfl, upd_same, t1 _ _ hpa6, Nat.le_trans (show _ ≤ 1000 by rw [len1]; simp only [List.length_cons, List.length_nil]; omega) (by decide), fun p2 hp2 => ?_⟩
      have t2 := same_new (o := .lst ([V.int ((toks (leftOut1 l m)).length : Int)] ++ toks (leftOut1 l m))) hp2
      have t12 := t1.trans t2
      refine ⟨_, rfl, tp, _, _, _, rfl, rfl, SqT.of (t12 _ _ htp6), rfl, pb, _, rfl, .inl (SqL.of (t12 _ _ hpb6)), by show 1 ≤ sizeLine; decide, fun p3 hp3 => ?_⟩
      have t3 := same_new (o := .lst [V.int ((toks (leftOut2 l m)).length : Int)]) hp3
      refine ⟨p2, p3, _, _, rfl, rfl, t3 _ _ upd_same, upd_same, Nat.le_trans (show _ ≤ 1000 by rw [List.length_append, len1]; simp only [List.length_cons, List.length_nil]; omega) (by decide), fun p4 hp4 => ?_⟩
      have t4 := same_new (o := .lst ([V.int ((toks (leftOut1 l m)).length : Int)] ++ toks (leftOut1 l m) ++ [V.int ((toks (leftOut2 l m)).length : Int)])) hp4
      have t14 := (t12.trans t3).trans t4
      refine ⟨_, rfl, tp, _, _, _, rfl, rfl, SqT.of (t14 _ _ htp6), rfl, p4, pb, _, _, rfl, rfl, upd_same, t14 _ _ hpb6, Nat.le_trans (show _ ≤ 1000 by rw [List.length_append, List.length_append, len1, len2]; simp only [List.length_cons, List.length_nil]; omega) (by decide), fun p5 hp5 => ?_⟩
      have t5 := same_new (o := .lst ([V.int ((toks (leftOut1 l m)).length : Int)] ++ toks (leftOut1 l m) ++ [V.int ((toks (leftOut2 l m)).length : Int)] ++ toks (leftOut2 l m))) hp5
      have t15 := t14.trans t5
      have s6 := s36.trans t15
      have s0 := s12.trans s6
      -- the tree
      refine ⟨_, rfl, _, rfl, x, _, dx, _, _, rfl, s0 _ _ h1, c_Store T, n_Store_tree T, lk_tree tv ra, _, rfl, _, rfl, a6, _, _, _, rfl, rfl, SqT.of (t15 _ _ ha6), rfl, la, lb, _, _, rfl, rfl, t15 _ _ hla, t15 _ _ hlb, Nat.le_trans (show _ ≤ 1000 by rw [pr_len hlv, pr_len hlw]; omega) (by decide), fun p7 hp7 => ?_⟩
      have t7 := same_new (o := .lst (lv ++ lw)) hp7
      have wfa : ∀ p ∈ a0 ++ z.1, wf p := fun p hp => by
        rcases List.mem_append.mp hp with h | h
        · exact hlv.wf_all p h
        · exact hlw.wf_all p h
      have wfw := all_wf (good_wf g et) wfa happ
      have ln : (a0 ++ z.1).length ≤ 16 := by rw [List.length_append]; omega
      refine ⟨tv, .ref p7, t, a0 ++ z.1, 12, w, rfl, (h7.same s0).same t7, ⟨p7, _, rfl, upd_same, pr_app (StepsV.same (t15.trans t7) hlv) (StepsV.same (t15.trans t7) hlw)⟩, good_wf g et, by omega, happ, fun v8 H8 s8 hv8 => ?_⟩
      refine ⟨v8, w, _, rfl, hv8, wfw, by omega, fun v9 H9 s9 hv9 => ?_⟩
      obtain ⟨b9, rfl, hb9, hc9⟩ := hv9
      have s79 := (t7.trans s8).trans s9
      have lf := flatTree_len wfw
      refine ⟨p5, b9, _, _, rfl, rfl, s79 _ _ upd_same, hc9, Nat.le_trans (show _ ≤ 10000 by simp only [List.length_append, List.length_map, List.length_cons, List.length_nil]; omega) (by decide), fun p10 hp10 => ?_⟩
      refine q _ _ ((s0.trans s79).trans (same_new hp10)) ⟨p10, rfl, none_of (s0.trans s79) hp10, ?_⟩
      rw [upd_same, len1, len2]
      simp [Vapatd.listed, toks, Vapatd.int]
      rfl
end
end Rw
end
section
set_option Elab.async false
set_option linter.all false
set_option maxRecDepth 100000
set_option maxHeartbeats 4000000
namespace Rw
open PySem PySem.Spec PyProof.Rows L2
open VapatBase (fileIn putFile dropFile namesOf flatStep inFile swapAll turnedAll appliedAll flatTree turned)
theorem two_is (p q : PStep) : Vapatd.rowsMerged [p] [q] = (Vapatd.merged p q).map fun z => ([z.1], [z.2]) := by
  unfold Vapatd.rowsMerged Vapatd.merged
  rw [rc_one]
  show ((okOf (Vapatb.aheadOf [turned p] q)).map fun r => ([r.1], r.2)).map (fun r => (r.1, turnedAll r.2)) = _
  cases e : VapatBase.commuted (turned p) q with
  | none =>
    rw [ahead_no (l := []) (l1 := []) rfl e]
    rfl
  | some r =>
    rw [ahead_yes (l := []) (l1 := []) rfl e]
    rfl
/-- what two answers -/
def twoTold (ns ms : List Int) : List Int := match VapatBase.whole VapatBase.readStep ns, VapatBase.whole VapatBase.readStep ms with
  | some x, some y => (match Vapatd.merged x y with
    | none => [0]
    | some z => 1 :: (flatStep z.1 ++ flatStep z.2))
  | _, _ => [-1]
theorem two_step (s : Vapatd.State) (ns ms : List Int) : Vapatd.step s (.two ns ms) = (s, twoTold ns ms) := by
  unfold twoTold
  show (match VapatBase.whole VapatBase.readStep ns, VapatBase.whole VapatBase.readStep ms with
    | some x, some y => (match Vapatd.merged x y with
      | none => (s, [0])
      | some z => (s, 1 :: (flatStep z.1 ++ flatStep z.2)))
    | _, _ => (s, [-1])) = _
  cases VapatBase.whole VapatBase.readStep ns with
  | none => cases VapatBase.whole VapatBase.readStep ms <;> rfl
  | some x =>
    cases VapatBase.whole VapatBase.readStep ms with
    | none => rfl
    | some y =>
      simp only
      cases Vapatd.merged x y <;> rfl
section
variable {K : PySem.W.Frag} {mg : Str → Option Value}
def spTwo (K : PySem.W.Frag) : Sp := fun vs H Q _ => ∃ a b ns ms, vs = [.ref a, .ref b] ∧ SqL K H a (ns.map V.int) ∧ SqL K H b (ms.map V.int) ∧ ns.length < sizeLine ∧ ms.length < sizeLine ∧ ∀ z H', Same H H' → IntsN H H' z (twoTold ns ms) → Q z H'
theorem ok_two_merged (T : Tx K mg) : Ok K mg 10 ("two_merged", none) ["numbers", "other_numbers"] (spTwo K) := by
  refine mk_ok T e_two_merged rfl rfl sc_two_merged (fun _ _ _ _ _ _ us hl => match us, hl with | [_, _], _ => rfl) (fun vs H Q E h => ?_) (fun P w base f cdv A outer s H vs Q E hr h => ?_)
  · obtain ⟨a, b, ns, ms, rfl, _⟩ := h; rfl
  · obtain ⟨a, b, ns, ms, rfl, hns, hms, ln, lm, q⟩ := h
    refine ⟨_, (pss_cons (ps_set (i := 2) sc_two_merged.nd rfl (Or.inl rfl) (pe_f (ok_step_of T) (g_step_of T) (hr.mono (by decide)) (pa_cons (pv 0) pa_nil))) (pss_cons (ps_set (i := 3) sc_two_merged.nd rfl (Or.inl rfl) (pe_f (ok_step_of T) (g_step_of T) (hr.mono (by decide)) (pa_cons (pv 1) pa_nil))) (pss_cons (ps_if (PW.pt (pw_or (pt_cmpR op_isN (pv 2) pe_non (nomark _)) (pw_or1 (pt_cmpR op_isN (pv 3) pe_non (nomark _))))) (pss_one (ps_ret (pe_lst (pa_cons (pe_gint (i_NOT_WHOLE T)) pa_nil)))) pss_nil) (pss_cons (ps_set (i := 4) sc_two_merged.nd rfl (Or.inl rfl) (pe_f (ok_merged T) (g_merged T) (hr.mono (by decide)) (pa_cons (pe_lst (pa_cons (pv 2) pa_nil)) (pa_cons (pe_lst (pa_cons (pv 3) pa_nil)) pa_nil)))) (pss_cons (ps_if (pt_cmpR op_isN (pv 4) pe_non (nomark _)) (pss_one (ps_ret (pe_lst (pa_cons pe_int pa_nil)))) pss_nil) (pss_one (ps_ret (pe_op op_cat (pe_op op_cat (pe_lst (pa_cons pe_int pa_nil)) (pe_mp0 (k := 1) (pe_ix ix_list (pe_ix ix_tup (pv 4) pe_int (fun _ _ => rfl)) pe_int (fun _ _ => rfl)) (hr.mono (by decide)))) (pe_mp0 (k := 1) (pe_ix ix_list (pe_ix ix_tup (pv 4) pe_int (fun _ _ => rfl)) pe_int (fun _ _ => rfl)) (hr.mono (by decide))))))))))), ?_⟩
    unfold twoTold at q
    refine ⟨_, rfl, a, ns, rfl, hns, ln, fun w1 H1 s1 hw1 => ?_⟩
    refine ⟨_, rfl, b, ms, rfl, s1.seq hms, lm, fun w2 H2 s2 hw2 => ?_⟩
    have s12 := s1.trans s2
    refine ⟨_, rfl, rfl, _, rfl, ?_⟩
    cases e1 : VapatBase.whole VapatBase.readStep ns with
    | none =>
      rw [e1] at hw1 q
      cases (show w1 = .non from hw1)
      exact ite2 (fun _ => one_new s12 q) (fun c => absurd (decide_eq_true rfl) c)
    | some p =>
      rw [e1] at hw1 q
      have hw1 : StepV K H1 w1 p := hw1
      obtain ⟨wa, wdx, wfs, rfl, _⟩ := hw1.ins
      refine ite2 (fun c => (isN_no rfl c).elim) (fun _ => ?_)
      refine ⟨_, rfl, rfl, _, rfl, ?_⟩
      cases e2 : VapatBase.whole VapatBase.readStep ms with
      | none =>
        rw [e2] at hw2 q
        cases (show w2 = .non from hw2)
        exact ite2 (fun _ => one_new s12 q) (fun c => absurd (decide_eq_true rfl) c)
      | some r =>
        rw [e2] at hw2 q
        have hw2 : StepV K H2 w2 r := hw2
        have q : ∀ z H', Same H H' → IntsN H H' z (match Vapatd.merged p r with
          | none => [0]
          | some z => 1 :: (flatStep z.1 ++ flatStep z.2)) → Q z H' := q
        obtain ⟨wb, wdx2, wfs2, rfl, _⟩ := hw2.ins
        refine ite2 (fun c => (isN_no rfl c).elim) (fun _ => ?_)
        refine ⟨_, rfl, by show 1 ≤ sizeLine; decide, fun p1 hp1 => ?_⟩
        have t1 := same_new (o := .lst [V.ref wa]) hp1
        refine ⟨_, rfl, by show 1 ≤ sizeLine; decide, fun p2 hp2 => ?_⟩
        have t2 := same_new (o := .lst [V.ref wb]) hp2
        have t12 := t1.trans t2
        refine ⟨.ref p1, .ref p2, [p], [r], rfl, ⟨p1, _, rfl, t2 _ _ upd_same, .cons (((hw1.same s2).same t12)) .nil⟩, by show 1 ≤ 1000; decide, ⟨p2, _, rfl, upd_same, .cons (hw2.same t12) .nil⟩, by show 1 ≤ 1000; decide, fun w3 H3 s3 hw3 => ?_⟩
        rw [two_is] at hw3
        have s03 := (s12.trans t12).trans s3
        cases em : Vapatd.merged p r with
        | none =>
          rw [em] at hw3
          rw [em] at q
          cases (show w3 = .non from hw3)
          refine ⟨_, rfl, rfl, _, rfl, ite2 (fun _ => ?_) (fun c => absurd (decide_eq_true rfl) c)⟩
          exact one_new s03 q
        | some z =>
          rw [em] at hw3
          rw [em] at q
          obtain ⟨t, y1, y2, rfl, ht, ⟨a1, v1, rfl, ha1, hv1⟩, ⟨a2, v2, rfl, ha2, hv2⟩⟩ := hw3
          cases hv1 with
          | cons g1 n1 =>
          cases n1
          cases hv2 with
          | cons g2 n2 =>
          cases n2
          refine ⟨_, rfl, rfl, _, rfl, ite2 (fun c => (isN_no rfl c).elim) (fun _ => ?_)⟩
          refine ⟨by show 1 ≤ sizeLine; decide, fun p4 hp4 => ?_⟩
          have t4 := same_new (o := .lst [V.int 1]) hp4
          refine ⟨_, rfl, t, _, _, _, rfl, rfl, SqT.of (t4 _ _ ht), rfl, a1, _, _, _, rfl, rfl, SqL.of (t4 _ _ ha1), rfl, rd1 (any_told T) (by decide +kernel) (g1.same t4) fun r5 H5 s5 k5 => ?_⟩
          obtain ⟨b5, rfl, hb5⟩ := k5
          have f1 := flat_len g1.1
          have f2 := flat_len g2.1
          refine ⟨p4, b5, _, _, rfl, rfl, s5 _ _ upd_same, hb5, Nat.le_trans (show _ ≤ 10000 by simp only [List.length_append, List.length_map, List.length_cons, List.length_nil]; omega) (by decide), fun p6 hp6 => ?_⟩
          have t6 := same_new (o := .lst ([V.int 1] ++ (flatStep z.1).map V.int)) hp6
          have s46 := (t4.trans s5).trans t6
          refine ⟨_, rfl, t, _, _, _, rfl, rfl, SqT.of (s46 _ _ ht), rfl, a2, _, _, _, rfl, rfl, SqL.of (s46 _ _ ha2), rfl, rd1 (any_told T) (by decide +kernel) (g2.same s46) fun r7 H7 s7 k7 => ?_⟩
          obtain ⟨b7, rfl, hb7⟩ := k7
          refine ⟨p6, b7, _, _, rfl, rfl, s7 _ _ upd_same, hb7, Nat.le_trans (show _ ≤ 10000 by simp only [List.length_append, List.length_map, List.length_cons, List.length_nil]; omega) (by decide), fun p8 hp8 => ?_⟩
          have s07 := (s03.trans s46).trans s7
          refine q _ _ (s07.trans (same_new hp8)) ⟨p8, rfl, none_of s07 hp8, ?_⟩
          rw [upd_same]
          simp
end
end Rw
end
section
set_option Elab.async false
set_option linter.all false
set_option maxRecDepth 100000
set_option maxHeartbeats 4000000
namespace Rw
open PySem PySem.Spec PyProof.Rows L2
open VapatBase (fileIn putFile dropFile namesOf flatStep inFile swapAll turnedAll appliedAll flatTree)
open Vapatd (rowOf rowsOf once allMerged treeTold)
/-! ### rows told by their numbers -/
theorem rows_none {s : Vapatd.State} : ∀ {ns : List Int}, ns.any outB = true → ns.mapM (rowOf s) = none
  | [], h => by cases h
  | n :: ns, h => by
    rw [List.mapM_cons]
    cases ho : outB n with
    | true => rw [rowOf_out ho]; rfl
    | false =>
      rw [List.any_cons, ho, Bool.false_or] at h
      rw [rows_none h]
      cases rowOf s n <;> rfl
def RowAt (s : Vapatd.State) (t : VapatBase.Tree) (k : Nat) (l : List PStep) : Prop := s.rows[k]? = some l ∧ l.length ≤ 24 ∧ ∃ u, appliedAll t l = some u
theorem rows_some {s : Vapatd.State} {t : VapatBase.Tree} (g : Good s) (e : s.tree = some t) : ∀ {ns : List Int}, ¬ ns.any outB = true → ∃ (ks : List Nat) (xs : List (Nat × List PStep)), ns = (ks.map fun (k : Nat) => (k : Int)) ∧ ns.mapM (rowOf s) = some xs ∧ (xs.map fun y => y.1) = ks ∧ Paired (RowAt s t) ks (xs.map fun y => y.2) ∧ ∀ k ∈ ks, k < 4
  | [], _ => ⟨[], [], rfl, rfl, rfl, .nil, fun k hk => by cases hk⟩
  | n :: ns, h => by
    rw [List.any_cons] at h
    cases ho : outB n with
    | true => rw [ho] at h; exact absurd rfl h
    | false =>
      rw [ho, Bool.false_or] at h
      obtain ⟨k, rfl, hk⟩ := outB_no ho
      obtain ⟨l, h1, h2, h3, h4⟩ := rowOf_in g e hk
      obtain ⟨ks, xs, rfl, i2, rfl, i4, i5⟩ := rows_some g e h
      refine ⟨k :: xs.map fun y => y.1, (k, l) :: xs, rfl, ?_, rfl, .cons ⟨h1, h3, h4⟩ i4, fun j hj => ?_⟩
      · rw [List.mapM_cons, h2, i2]
        rfl
      · rcases List.mem_cons.mp hj with rfl | hj
        · exact hk
        · exact i5 j hj
def allTold (t : VapatBase.Tree) (ls : List (List PStep)) : List Int := match allMerged ls [] 0 with
  | .error k => [0, Vapatd.int k]
  | .ok m => 1 :: treeTold t m
theorem all_rows {s : Vapatd.State} (g : Good s) (ns : List Int) : (ref0 s ns < 0 ∧ Vapatd.step s (.all ns) = (s, [ref0 s ns])) ∨
    (ref0 s ns = 0 ∧ ∃ t ks ls, s.tree = some t ∧ ns = (ks.map fun (k : Nat) => (k : Int)) ∧ Paired (RowAt s t) ks ls ∧ (∀ k ∈ ks, k < 4) ∧ Vapatd.step s (.all ns) = (s, if ks.Nodup then allTold t ls else [-2])) := by
  have st : Vapatd.step s (.all ns) = Vapatd.onTree s fun t => (s, match rowsOf s ns with
    | none => [-2]
    | some rs => match allMerged rs [] 0 with
      | .error k => [0, Vapatd.int k]
      | .ok m => 1 :: treeTold t m) := rfl
  cases e : s.tree with
  | none =>
    refine .inl ⟨by rw [ref0_none _ e]; decide, ?_⟩
    rw [st, ref0_none _ e]
    unfold Vapatd.onTree
    rw [e]
  | some t =>
    unfold Vapatd.onTree at st
    rw [e] at st
    by_cases c : ns.any outB = true
    · refine .inl ⟨by rw [ref0_out e c]; decide, ?_⟩
      rw [st, ref0_out e c]
      unfold rowsOf
      rw [rows_none c]
      rfl
    · obtain ⟨ks, xs, h1, h2, h3, h4, h5⟩ := rows_some g e c
      refine .inr ⟨ref0_in e c, t, ks, xs.map fun y => y.2, rfl, h1, h4, h5, ?_⟩
      rw [st]
      unfold rowsOf
      rw [h2, Option.bind_some, h3]
      have lx : xs.length = ks.length := by rw [← h3, List.length_map]
      rw [lx]
      by_cases d : ks.Nodup
      · rw [if_pos d, if_pos ((once_iff ks).mpr d)]
        rfl
      · rw [if_neg d, if_neg (fun z => d ((once_iff ks).mp z))]
section
variable {K : PySem.W.Frag} {mg : Str → Option Value}
def spAll (K : PySem.W.Frag) : Sp := fun vs H Q _ => ∃ x F s a ns, vs = [.ref x, .ref a] ∧ StoreV K H x F s ∧ SqL K H a (ns.map V.int) ∧ ns.length ≤ 1000 ∧ ∀ z H', Same H H' → IntsN H H' z (Vapatd.step s (.all ns)).2 → Q z H'
theorem ok_Store_merge_all (T : Tx K mg) : Ok K mg 10 ("Store", some "merge_all") ["self", "rows"] (spAll K) := by
  refine mk_ok T e_Store_merge_all rfl rfl sc_Store_merge_all (fun _ _ _ _ _ _ us hl => match us, hl with | [_, _], _ => rfl) (fun vs H Q E h => ?_) (fun P w base f cdv A outer s H vs Q E hr h => ?_)
  · obtain ⟨x, F, s, a, ns, rfl, _⟩ := h; rfl
  · obtain ⟨x, F, st, a, ns, rfl, hS, hns, hlen, q⟩ := h
    refine ⟨_, (pss_cons (ps_set (i := 2) sc_Store_merge_all.nd rfl (Or.inl rfl) (pe_mp (k := 9) (pv 0) (hr.mono (by decide)) (pa_cons (pv 1) pa_nil))) (pss_cons (ps_if (pt_cmpR op_lt (pv 2) pe_int (nomark _)) (pss_one (ps_ret (pe_lst (pa_cons (pv 2) pa_nil)))) pss_nil) (pss_cons (ps_if (pt_cmpR op_lt (pe_callB call_lenS (by rfl) (z_len T) (by decide +kernel) (pa_cons (pe_callTy (cr_setL rfl) (by rfl) (z_set T) (by decide +kernel) (pa_cons (pv 1) pa_nil)) pa_nil)) (pe_callB call_len_seq (by rfl) (z_len T) (by decide +kernel) (pa_cons (pv 1) pa_nil)) (nomark _)) (pss_one (ps_ret (pe_lst (pa_cons (pe_gint (i_NO_ROW T)) pa_nil)))) pss_nil) (pss_cons (ps_set (i := 3) sc_Store_merge_all.nd rfl (Or.inl rfl) (pe_lst pa_nil)) (pss_cons (ps_for PassesOwn.never rfl (pi_enum (by rfl) (z_enumerate T) (pa_cons (pv 1) pa_nil)) (pg_tup rfl (pgs_cons (pg_name (i := 4) sc_Store_merge_all.nd rfl (Or.inl rfl)) (pgs_cons (pg_name (i := 5) sc_Store_merge_all.nd rfl (Or.inl rfl)) pgs_nil))) (pss_cons (ps_set (i := 6) sc_Store_merge_all.nd rfl (Or.inl rfl) (pe_f (ok_merged T) (g_merged T) (hr.mono (by decide)) (pa_cons (pv 3) (pa_cons (pe_ix ix_list (pe_fld (pv 0) rfl) (pv 5) (fun _ _ => rfl)) pa_nil)))) (pss_cons (ps_if (pt_cmpR op_isN (pv 6) pe_non (nomark _)) (pss_one (ps_ret (pe_lst (pa_cons pe_int (pa_cons (pv 4) pa_nil))))) pss_nil) (pss_one (ps_set (i := 3) sc_Store_merge_all.nd rfl (Or.inl rfl) (pe_op op_cat (pv 3) (pe_ix ix_tup (pv 6) pe_int (fun _ _ => rfl)))))))) (pss_one (ps_ret (pe_op op_cat (pe_lst (pa_cons pe_int pa_nil)) (pe_f (ok_tree_told T) (g_tree_told T) (hr.mono (by decide)) (pa_cons (pe_f (ok_tree_after T) (g_tree_after T) (hr.mono (by decide)) (pa_cons (pe_fld (pv 0) rfl) (pa_cons (pv 3) pa_nil))) pa_nil)))))))))), ?_⟩
    have g := hS.good
    obtain ⟨dx, tv, ra, rs, h1, _, _, _, _, _, h7⟩ := id hS
    have mo := m_ok (c_Store T) (m_Store_refusal_for T) (ok_Store_refusal_for T)
    refine ⟨_, rfl, _, x, dx, _, _, mo, rfl, h1, lk_no (by decide +kernel) (by decide +kernel) tv ra, _, rfl, x, F, st, a, ns, rfl, hS, hns, hlen, fun H2 s2 => ?_⟩
    refine ⟨_, rfl, _, _, rfl, rfl, _, rfl, ?_⟩
    rcases all_rows g ns with ⟨c, hf⟩ | ⟨c, t, ks, ls, et, rfl, hks, hk4, hf⟩
    · rw [hf] at q
      exact ite2 (fun _ => ⟨_, rfl, one_new s2 q⟩) (fun c2 => absurd (decide_eq_true c) c2)
    rw [hf] at q
    rw [et] at h7
    have h7 : TreeV H tv t := h7
    have lk := pr_len hks
    rw [List.length_map] at hlen
    refine ite2 (fun c2 => by have := of_decide_eq_true c2; omega) (fun _ => ?_)
    refine ⟨_, rfl, a, _, rfl, s2.seq hns, by rw [List.length_map]; exact hlen, fun p n L hp nd mem hl => ?_⟩
    have s3 := same_new (o := SetO w p (fun j => decide (j ∈ ks.map fun (k : Nat) => (k : Int))) n) hp
    have s23 := s2.trans s3
    refine ⟨p, _, n, rfl, upd_same, _, rfl, a, _, rfl, .inl (s23.seq hns), _, _, rfl, rfl, _, rfl, ?_⟩
    have few := few_iff nd mem
    rw [hl] at few
    rw [nodup_int] at few
    have ll : ((ks.map fun (k : Nat) => (k : Int)).map V.int).length = (ks.map fun (k : Nat) => (k : Int)).length := List.length_map _
    refine ite2 (fun c3 => ?_) (fun c3 => ?_)
    · have c3 := of_decide_eq_true c3
      rw [ll] at c3
      rw [if_neg (few.mp (by omega))] at q
      exact one_new s23 q
    have nd2 : ks.Nodup := by
      apply Classical.byContradiction
      intro z
      refine c3 (decide_eq_true ?_)
      rw [ll]
      have := few.mpr z
      omega
    have four : ks.length ≤ 4 := by
      have := nodup_few (ns := List.range 4) nd2 fun k hk => List.mem_range.mpr (hk4 k hk)
      simpa using this
    rw [if_pos nd2] at q
    clear c3 few mem nd hl
    refine ⟨by show 0 ≤ sizeLine; decide, fun pt hpt => ?_⟩
    have s4 := same_new (o := .lst []) hpt
    have s24 := s23.trans s4
    have wft := good_wf g et
    refine ⟨_, rfl, a, _, rfl, s24.seq hns, for_it (walk_enum (K := K) (a := a) (xs := (ks.map fun (k : Nat) => (k : Int)).map V.int)) (fun i σ H' => ∃ (x4 x5 x6 : Option V) (th : Addr) (tl : List PStep) (u : VapatBase.Tree), σ = [some (V.ref x), some (V.ref a), some (V.int (ref0 st (ks.map fun (k : Nat) => (k : Int)))), some (V.ref th), x4, x5, x6] ∧ Same H H' ∧ RowV K H' (.ref th) tl ∧ allMerged ls [] 0 = allMerged (ls.drop i) tl i ∧ appliedAll t tl = some u ∧ tl.length ≤ 24 * i)
      ⟨none, none, none, pt, [], t, rfl, s24, ⟨pt, [], rfl, upd_same, .nil⟩, rfl, rfl, Nat.le_refl _⟩ (fun i σ H' _ ⟨_, _, _, _, _, _, _, s', _⟩ => s'.seq hns) ?_ ?_⟩
    · rintro i y σ H3 H4 hi ⟨x4, x5, x6, th, tl, u, rfl, s', hth, em, hu, hl⟩ ⟨t1, z1, y1, rfl, ht1, rfl, e1, ey⟩
      cases e1
      rw [ll, List.length_map] at hi
      obtain ⟨k, hk, rfl⟩ : ∃ k, ks[i]? = some k ∧ V.int (k : Int) = y1 := by
        have ey : ((ks.map fun (k : Nat) => (k : Int)).map V.int)[i]? = some y1 := ey
        rw [List.getElem?_map, List.getElem?_map] at ey
        cases e : ks[i]? with
        | none => rw [e] at ey; cases ey
        | some k => rw [e] at ey; exact ⟨k, rfl, Option.some.inj ey⟩
      have s5 := same_new (o := .tup [V.int (i : Int), V.int (k : Int)]) ht1
      have s05 := s'.trans s5
      obtain ⟨l, hl2, hrow, hl24, v, hv⟩ := pr_get hks hk
      obtain ⟨dx1, tv1, ra1, rs1, b1, h1', h2', h3', h4', _⟩ := (hS.same s05).row hrow
      refine ⟨t1, _, rfl, SqT.of upd_same, rfl, _, _, rfl, _, _, rfl, rfl, ?_⟩
      refine ⟨_, rfl, _, rfl, x, _, dx1, _, _, rfl, h1', c_Store T, n_Store_rows T, lk_rows tv1 ra1, _, rfl, ra1, _, _, _, rfl, rfl, SqL.of h2', atI_nat h3', .ref th, .ref b1, tl, l, rfl, hth.same s5, by omega, h4', by omega, fun w3 H6 s6 hw => ?_⟩
      have s06 := s05.trans s6
      cases ec : Vapatd.rowsMerged tl l with
      | none =>
        rw [ec] at hw
        cases (show w3 = .non from hw)
        refine ⟨_, rfl, rfl, _, rfl, ite2 (fun _ => ?_) (fun c => absurd (decide_eq_true rfl) c)⟩
        unfold allTold at q
        rw [em, all_no hl2 ec] at q
        refine ⟨_, rfl, by show 2 ≤ sizeLine; decide, fun p9 hp9 => ?_⟩
        exact q _ _ (s06.trans (same_new hp9)) ⟨p9, rfl, none_of s06 hp9, upd_same⟩
      | some z =>
        rw [ec] at hw
        obtain ⟨a6, y1, y2, rfl, ha6, ⟨lb, lw, rfl, hlb, hlw⟩, _⟩ := hw
        obtain ⟨_, lv, e6, hla, hlv⟩ := (hth.same s5).same s6
        cases e6
        have mr := (rowsMerged_iff tl l z.1 z.2).mp (by rw [ec])
        have nz : z.1.length = l.length := MR_len_right mr
        obtain ⟨u2, hu2, _⟩ := MR_diamond mr wft.1 hu hv
        refine ⟨_, rfl, rfl, _, rfl, ite2 (fun c => (isN_no rfl c).elim) (fun _ => ?_)⟩
        refine ⟨_, rfl, _, rfl, a6, _, _, _, rfl, rfl, SqT.of ha6, rfl, th, lb, _, _, rfl, rfl, hla, hlb, Nat.le_trans (show _ ≤ 1000 by rw [pr_len hlv, pr_len hlw]; omega) (by decide), fun p9 hp9 => ?_⟩
        have s9 := same_new (o := .lst (lv ++ lw)) hp9
        exact ⟨_, _, _, p9, tl ++ z.1, u2, rfl, s06.trans s9, ⟨p9, _, rfl, upd_same, pr_app (StepsV.same s9 hlv) (StepsV.same s9 hlw)⟩, em.trans (all_go hl2 ec), (all_append _ _ _ _).mpr ⟨u, hu, hu2⟩, by rw [List.length_append]; omega⟩
    · rintro σ H' ⟨x4, x5, x6, th, tl, u, rfl, s', hth, em, hu, hl⟩
      rw [ll, List.length_map, lk, all_end] at em
      rw [ll, List.length_map] at hl
      unfold allTold at q
      rw [em] at q
      have q : ∀ z H', Same H H' → IntsN H H' z (1 :: flatTree u) → Q z H' := fun y H' s' hz => q y H' s' (by
        show IntsN H H' y (1 :: treeTold t tl)
        rw [treeTold, hu]
        exact hz)
      have wfu := all_wf wft (by obtain ⟨_, _, e, _, w⟩ := hth; exact w.wf_all) hu
      refine ⟨by show 1 ≤ sizeLine; decide, fun p1 hp1 => ?_⟩
      have t1 := same_new (o := .lst [V.int 1]) hp1
      have s1 := s'.trans t1
      refine ⟨_, rfl, x, _, dx, _, _, rfl, s1 _ _ h1, c_Store T, n_Store_tree T, lk_tree tv ra, _, rfl, ?_⟩
      refine ⟨tv, .ref th, t, tl, 12, u, rfl, h7.same s1, hth.same t1, wft, by omega, hu, fun v8 H8 s8 hv8 => ?_⟩
      refine ⟨v8, u, _, rfl, hv8, wfu, by omega, fun v9 H9 s9 hv9 => ?_⟩
      obtain ⟨b9, rfl, hb9, hc9⟩ := hv9
      have s89 := s8.trans s9
      have lf := flatTree_len wfu
      refine ⟨p1, b9, _, _, rfl, rfl, s89 _ _ upd_same, hc9, Nat.le_trans (show _ ≤ 100000 by simp only [List.length_map, List.length_cons, List.length_nil]; omega) (by decide), fun p10 hp10 => ?_⟩
      have s19 := s1.trans s89
      refine q _ _ (s19.trans (same_new hp10)) ⟨p10, rfl, none_of s19 hp10, ?_⟩
      rw [upd_same]
      rfl
end
end Rw
end
section
set_option Elab.async false
set_option linter.all false
set_option maxRecDepth 100000
set_option maxHeartbeats 4000000
namespace Rw
open PySem PySem.Spec PyProof.Rows L2
open VapatBase (fileIn putFile dropFile namesOf flatStep inFile swapAll turnedAll appliedAll flatTree)
/-! ### what changes: only what is the object's own -/
def Chg (F F' : List Addr) (H H' : Hp) : Prop := (∀ b ∈ F', b ∈ F ∨ H b = none) ∧ ∀ b o, b ∉ F → H b = some o → H' b = some o
theorem Chg.of {F : List Addr} {H H' : Hp} (s : Same H H') : Chg F F H H' := ⟨fun b h => .inl h, fun b o _ e => s b o e⟩
theorem Chg.after {F F' : List Addr} {H H1 H' : Hp} (s : Same H H1) (c : Chg F F' H1 H') : Chg F F' H H' :=
  ⟨fun b h => (c.1 b h).imp id (none_of s), fun b o n e => c.2 b o n (s b o e)⟩
theorem Chg.then {F F' : List Addr} {H H1 H' : Hp} (c : Chg F F' H H1) (s : Same H1 H') : Chg F F' H H' :=
  ⟨c.1, fun b o n e => s b o (c.2 b o n e)⟩
/-- an object that is part of no step -/
def Plain (u : HO) : Prop := (∃ xs, u = .lst xs) ∨ (∃ C dx tv ra, u = .ins C dx (fStore tv ra))
theorem pr_mem {α β : Type} {R S : α → β → Prop} : ∀ {xs : List α} {ys : List β}, Paired R xs ys → (∀ x y, x ∈ xs → R x y → S x y) → Paired S xs ys
  | _, _, .nil, _ => .nil
  | _, _, .cons r t, h => .cons (h _ _ List.mem_cons_self r) (pr_mem t fun x y hx => h x y (List.mem_cons_of_mem _ hx))
theorem TupV.updL {H : Hp} {v : V} {l : List Nat} {p : Addr} {xs : List V} {o : HO} (h : TupV H v l) (hp : H p = some (.lst xs)) : TupV (L2.upd H p o) v l := by
  obtain ⟨q, e, hq⟩ := h
  refine ⟨q, e, ?_⟩
  rw [upd_ne (fun z => by rw [z, hp] at hq; cases hq)]
  exact hq
theorem TreeV.updL {H : Hp} {v : V} {t : VapatBase.Tree} {p : Addr} {xs : List V} {o : HO} (h : TreeV H v t) (hp : H p = some (.lst xs)) : TreeV (L2.upd H p o) v t := by
  obtain ⟨d, kvs, e, h1, h2, h3⟩ := h
  refine ⟨d, kvs, e, ?_, h2, fun x hx => (h3 x hx).updL hp⟩
  rw [upd_ne (fun z => by rw [z, hp] at h1; cases h1)]
  exact h1
section
variable {K : PySem.W.Frag} {mg : Str → Option Value}
/-- a row of the object gets one step more -/
theorem rows_set {H : Hp} {rs : List Addr} {ls : List (List PStep)} {k : Nat} {b : Addr} {vs : List V} {l : List PStep} {v : V} {p : PStep} (h : RowsV K H rs ls) (nd : rs.Nodup) (hb : rs[k]? = some b) (hl : ls[k]? = some l)
    (hvs : H b = some (.lst vs)) (hs : StepsV K H vs l) (hp : StepV K H v p) : RowsV K (upd H b (.lst (vs ++ [v]))) rs (ls.set k (l ++ [p])) := by
  have key : StepsV K (upd H b (.lst (vs ++ [v]))) (vs ++ [v]) (l ++ [p]) := pr_app (StepsV.upd hs hvs) (.cons (StepV.upd hp hvs) .nil)
  have go : ∀ {rs : List Addr} {ls : List (List PStep)} {k : Nat}, RowsV K H rs ls → rs.Nodup → rs[k]? = some b → RowsV K (upd H b (.lst (vs ++ [v]))) rs (ls.set k (l ++ [p])) := by
    intro rs
    induction rs with
    | nil => intro ls k h nd hb; simp at hb
    | cons a rs ih =>
      intro ls k h nd hb
      cases h with
      | cons r t =>
        cases k with
        | zero =>
          simp at hb
          subst hb
          refine .cons ⟨_, upd_same, key⟩ (pr_mem t fun c m hc ⟨ws, h1, h2⟩ => ?_)
          have ne : c ≠ a := fun e => (List.nodup_cons.mp nd).1 (by rw [← e]; exact hc)
          exact ⟨ws, by rw [upd_ne ne]; exact h1, StepsV.upd h2 hvs⟩
        | succ k =>
          have hb : rs[k]? = some b := by simpa using hb
          refine .cons ?_ (ih t (List.nodup_cons.mp nd).2 hb)
          obtain ⟨ws, h1, h2⟩ := r
          have ne : a ≠ b := fun e => (List.nodup_cons.mp nd).1 (by rw [e]; exact List.mem_of_getElem? hb)
          exact ⟨ws, by rw [upd_ne ne]; exact h1, StepsV.upd h2 hvs⟩
  exact go h nd hb
/-- the object with a step more in a row -/
theorem StoreV.put {H : Hp} {x : Addr} {F : List Addr} {s : Vapatd.State} {t : VapatBase.Tree} {k : Nat} {l : List PStep} {v : V} {p : PStep} (h : StoreV K H x F s) (et : s.tree = some t) (hk : s.rows[k]? = some l) (hp : StepV K H v p)
    (hl : l.length < 24) (hu : ∃ u, appliedAll t (l ++ [p]) = some u) :
    ∃ (dx : Addr) (tv : V) (ra : Addr) (rs : List Addr) (b : Addr) (vs : List V), H x = some (.ins (He.ga K "Store") dx (fStore tv ra)) ∧ H ra = some (.lst (rs.map V.ref)) ∧ (rs.map V.ref)[k]? = some (V.ref b) ∧ H b = some (.lst vs) ∧ vs.length = l.length ∧ b ∈ F ∧
      StoreV K (upd H b (.lst (vs ++ [v]))) x F { s with rows := s.rows.set k (l ++ [p]) } := by
  obtain ⟨dx, tv, ra, rs, h1, h2, h3, h4, h5, h6, h7⟩ := h
  obtain ⟨b, e, vs, g1, g2⟩ := pr_at h3 hk
  have hb : b ∈ rs := List.mem_of_getElem? e
  rw [h4] at h5
  have n1 := (List.nodup_cons.mp h5).1
  have n2 := (List.nodup_cons.mp (List.nodup_cons.mp h5).2)
  have xb : x ≠ b := fun z => n1 (by rw [z]; exact List.mem_cons_of_mem _ hb)
  have rb : ra ≠ b := fun z => n2.1 (by rw [z]; exact hb)
  refine ⟨dx, tv, ra, rs, b, vs, h1, h2, by rw [List.getElem?_map, e]; rfl, g1, pr_len g2, by rw [h4]; exact List.mem_cons_of_mem _ (List.mem_cons_of_mem _ hb), dx, tv, ra, rs, ?_, ?_, rows_set h3 n2.2 e hk g1 g2 hp, h4, by rw [h4]; exact h5, ?_, ?_⟩
  · rw [upd_ne xb]; exact h1
  · rw [upd_ne rb]; exact h2
  · unfold Good at h6 ⊢
    rw [et] at h6
    show (match s.tree with | none => _ | some t => _)
    rw [et]
    obtain ⟨q1, q2, q3⟩ := h6
    refine ⟨by rw [List.length_set]; exact q1, q2, fun m hm => ?_⟩
    rcases List.mem_or_eq_of_mem_set hm with hm | rfl
    · exact q3 m hm
    · exact ⟨by rw [List.length_append]; exact hl, hu⟩
  · show (match s.tree with | none => _ | some t => _)
    rw [et] at h7 ⊢
    exact TreeV.updL h7 g1
end
end Rw
end
section
set_option Elab.async false
set_option linter.all false
set_option maxRecDepth 100000
set_option maxHeartbeats 4000000
namespace Rw
open PySem PySem.Spec PyProof.Rows L2
open VapatBase (fileIn putFile dropFile namesOf flatStep inFile swapAll turnedAll appliedAll flatTree)
theorem st_no {s : Vapatd.State} {r : Int} {ns : List Int} {n : Int} (h : ∀ f, Vapatd.onRow s r f = (s, [n])) : Vapatd.step s (.step r ns) = (s, [n]) := by
  show Vapatd.doStep s r ns = _
  unfold Vapatd.doStep
  exact h _
section
variable {s : Vapatd.State} {r : Int} {ns : List Int} {t : VapatBase.Tree} {k : Nat} {l : List PStep} (h : ∀ f, Vapatd.onRow s r f = f t k l)
include h
theorem st_whole (e : VapatBase.whole VapatBase.readStep ns = none) : Vapatd.step s (.step r ns) = (s, [-1]) := by
  show Vapatd.doStep s r ns = _
  unfold Vapatd.doStep
  rw [h, e]
theorem st_long {p : PStep} (e : VapatBase.whole VapatBase.readStep ns = some p) (c : 8 ≤ l.length) : Vapatd.step s (.step r ns) = (s, [-6]) := by
  show Vapatd.doStep s r ns = _
  unfold Vapatd.doStep
  rw [h, e]
  exact if_pos c
theorem st_fit {p : PStep} {u : VapatBase.Tree} (e : VapatBase.whole VapatBase.readStep ns = some p) (c : ¬ 8 ≤ l.length) (hu : appliedAll t l = some u) :
    Vapatd.step s (.step r ns) = if (VapatBase.applied u p).isSome = true then ({ s with rows := s.rows.set k (l ++ [p]) }, [(l.length : Int)]) else (s, [-4]) := by
  show Vapatd.doStep s r ns = _
  unfold Vapatd.doStep
  rw [h, e]
  refine (if_neg c).trans ?_
  rw [hu, Option.bind_some]
  cases VapatBase.applied u p <;> rfl
end
section
variable {K : PySem.W.Frag} {mg : Str → Option Value}
def spStep (K : PySem.W.Frag) : Sp := fun vs H Q _ => ∃ x F s r a ns, vs = [.ref x, .int r, .ref a] ∧ StoreV K H x F s ∧ SqL K H a (ns.map V.int) ∧ ns.length < sizeLine ∧
  ∀ z H' F', Chg F F' H H' → StoreV K H' x F' (Vapatd.step s (.step r ns)).1 → IntsN H H' z (Vapatd.step s (.step r ns)).2 → Q z H'
theorem ok_Store_add_step (T : Tx K mg) : Ok K mg 10 ("Store", some "add_step") ["self", "row", "numbers"] (spStep K) := by
  refine mk_ok T e_Store_add_step rfl rfl sc_Store_add_step (fun _ _ _ _ _ _ us hl => match us, hl with | [_, _, _], _ => rfl) (fun vs H Q E h => ?_) (fun P w base f cdv A outer s H vs Q E hr h => ?_)
  · obtain ⟨x, F, s, r, a, ns, rfl, _⟩ := h; rfl
  · obtain ⟨x, F, st, r, a, ns, rfl, hS, hns, hlen, q⟩ := h
    refine ⟨_, (pss_cons (ps_set (i := 3) sc_Store_add_step.nd rfl (Or.inl rfl) (pe_mp (k := 9) (pv 0) (hr.mono (by decide)) (pa_cons (pe_lst (pa_cons (pv 1) pa_nil)) pa_nil))) (pss_cons (ps_if (pt_cmpR op_lt (pv 3) pe_int (nomark _)) (pss_one (ps_ret (pe_lst (pa_cons (pv 3) pa_nil)))) pss_nil) (pss_cons (ps_set (i := 4) sc_Store_add_step.nd rfl (Or.inl rfl) (pe_f (ok_step_of T) (g_step_of T) (hr.mono (by decide)) (pa_cons (pv 2) pa_nil))) (pss_cons (ps_if (pt_cmpR op_isN (pv 4) pe_non (nomark _)) (pss_one (ps_ret (pe_lst (pa_cons (pe_gint (i_NOT_WHOLE T)) pa_nil)))) pss_nil) (pss_cons (ps_set (i := 5) sc_Store_add_step.nd rfl (Or.inl rfl) (pe_callB call_len_seq (by rfl) (z_len T) (by decide +kernel) (pa_cons (pe_ix ix_list (pe_fld (pv 0) rfl) (pv 1) (fun _ _ => rfl)) pa_nil))) (pss_cons (ps_if (pt_cmpR op_ge (pv 5) (pe_gint (i_MOST_STEPS T)) (nomark _)) (pss_one (ps_ret (pe_lst (pa_cons (pe_gint (i_TOO_MANY T)) pa_nil)))) pss_nil) (pss_cons (ps_if (pt_not (pt_val (pe_mp (k := 1) (pv 4) (hr.mono (by decide)) (pa_cons (pe_mp (k := 9) (pv 0) (hr.mono (by decide)) (pa_cons (pv 1) pa_nil)) pa_nil)))) (pss_one (ps_ret (pe_lst (pa_cons (pe_gint (i_NO_FIT T)) pa_nil)))) pss_nil) (pss_cons (ps_expr (pe_bm PySem.F.plainAttrs_list PySem.F.slot_list_append PySem.F.type_list_append mt_append (pe_ix ix_list (pe_fld (pv 0) rfl) (pv 1) (fun _ _ => rfl)) (pa_cons (pv 4) pa_nil))) (pss_one (ps_ret (pe_lst (pa_cons (pv 5) pa_nil)))))))))))), ?_⟩
    have g := hS.good
    obtain ⟨dx, tv, ra, rs, h1, _⟩ := id hS
    have mo := m_ok (c_Store T) (m_Store_refusal_for T) (ok_Store_refusal_for T)
    refine ⟨_, rfl, _, x, dx, _, _, mo, rfl, h1, lk_no (by decide +kernel) (by decide +kernel) tv ra, _, rfl, by show 1 ≤ sizeLine; decide, fun p hp => ?_⟩
    have s1 := same_new (o := .lst [V.int r]) hp
    refine ⟨x, F, st, p, [r], rfl, hS.same s1, SqL.of upd_same, by show 1 ≤ 1000; decide, fun H2 s2 => ?_⟩
    rw [ref0_one]
    have s12 := s1.trans s2
    refine ⟨_, rfl, _, _, rfl, rfl, _, rfl, ?_⟩
    rcases one_row g r with ⟨c, hf⟩ | ⟨c, t, k, l, et, rfl, hk, hl, ⟨u, hu⟩, hf⟩
    · refine ite2 (fun _ => ⟨_, rfl, one_new s12 fun z H' s' hz => ?_⟩) (fun c2 => absurd (decide_eq_true c) c2)
      rw [st_no hf] at q
      exact q _ _ F (.of s') (hS.same s') hz
    · refine ite2 (fun c2 => ?_) (fun _ => ?_)
      · have := of_decide_eq_true c2
        omega
      have only : ∀ {H9 : Hp} {n : Int}, Same H H9 → (∀ z H' F', Chg F F' H H' → StoreV K H' x F' st → IntsN H H' z [n] → Q z H') → ([V.int n] : List V).length ≤ sizeLine ∧ ∀ p, H9 p = none → Q (.ref p) (upd H9 p (.lst [V.int n])) :=
        fun s9 q9 => one_new s9 fun z H' s' hz => q9 _ _ F (.of s') (hS.same s') hz
      refine ⟨_, rfl, a, ns, rfl, s12.seq hns, hlen, fun w H3 s3 hw => ?_⟩
      have s13 := s12.trans s3
      cases ec : VapatBase.whole VapatBase.readStep ns with
      | none =>
        rw [ec] at hw
        rw [st_whole hf ec] at q
        cases (show w = .non from hw)
        refine ⟨_, rfl, rfl, _, rfl, ite2 (fun _ => ?_) (fun c => absurd (decide_eq_true rfl) c)⟩
        exact only s13 q
      | some pp =>
        rw [ec] at hw
        have hw : StepV K H3 w pp := hw
        have hw2 := hw.ins
        obtain ⟨wa, wdx, wfs, rfl, hw2, hw3⟩ := hw2
        refine ⟨_, rfl, rfl, _, rfl, ite2 (fun c => (isN_no rfl c).elim) (fun _ => ?_)⟩
        obtain ⟨dx1, tv1, ra1, rs1, b1, h1', h2', h3', ⟨b1', vs1, eb, hb1, hv1⟩, _⟩ := (hS.same s13).row hk
        cases eb
        have lv := pr_len hv1
        refine ⟨_, rfl, x, _, dx1, _, _, rfl, h1', c_Store T, n_Store_rows T, lk_rows tv1 ra1, _, rfl, ra1, _, _, _, rfl, rfl, SqL.of h2', atI_nat h3', b1, _, rfl, .inl (SqL.of hb1), ?_⟩
        refine ⟨_, rfl, _, _, rfl, rfl, _, rfl, ?_⟩
        rw [lv]
        refine ite2 (fun c3 => ?_) (fun c3 => ?_)
        · have := of_decide_eq_true c3
          rw [st_long hf ec (by omega)] at q
          exact only s13 q
        · have l8 : l.length < 8 := by have := of_decide_eq_false (Bool.eq_false_iff.mpr c3); omega
          rw [st_fit hf ec (by omega) hu] at q
          have mo2 := m_ok (c_Store T) (m_Store_tree_of_row T) (ok_Store_tree_of_row T)
          have wl := all_wf (good_wf g et) hv1.wf_all hu
          refine ⟨_, rfl, _, wa, wdx, wfs, _, any_fits T _ (kd_lt pp), rfl, hw2, hw3 _ (by decide +kernel), _, rfl, _, x, dx, _, _, mo2, rfl, s13 _ _ h1, lk_no (by decide +kernel) (by decide +kernel) tv ra, _, rfl, x, F, st, t, k, l, u, rfl, hS.same s13, et, hk, hl, hu, fun v4 H4 s4 hv4 => ?_⟩
          refine ⟨_, pp, v4, (u, 12 + 8 * l.length), rfl, hw.same s4, rfl, ⟨wl, show 12 + 8 * l.length ≤ 100000 by omega, hv4⟩, fun z H5 s5 hz => ?_⟩
          have hz : z = .bl (VapatBase.applied u pp).isSome := hz
          subst hz
          have s15 := (s13.trans s4).trans s5
          refine ⟨_, rfl, ?_⟩
          cases ea : VapatBase.applied u pp with
          | none =>
            rw [ea] at q
            exact ite2 (fun _ => only s15 q) (fun c => absurd rfl c)
          | some u2 =>
            rw [ea] at q
            refine ite2 (fun c => by cases c) (fun _ => ?_)
            have fit : ∃ w, appliedAll t (l ++ [pp]) = some w := ⟨u2, (all_append _ _ _ _).mpr ⟨u, hu, (all_cons _ _ _ _).mpr ⟨u2, ea, rfl⟩⟩⟩
            obtain ⟨dx2, tv2, ra2, rs2, b2, vs2, k1, k2, k3, k4, k5, k6, k7⟩ := (hS.same s15).put et hk ((hw.same s4).same s5) (by omega) fit
            refine ⟨_, rfl, x, _, dx2, _, _, rfl, k1, c_Store T, n_Store_rows T, lk_rows tv2 ra2, _, rfl, ra2, _, _, _, rfl, rfl, SqL.of k2, atI_nat k3, .inl ⟨rfl, _, SqL.of k4⟩, _, rfl, b2, vs2, .ref wa, rfl, rfl, k4, Nat.lt_of_le_of_lt (show vs2.length ≤ 8 by omega) (by decide), ?_⟩
            have chg : Chg F F H (upd H5 b2 (.lst (vs2 ++ [V.ref wa]))) := ⟨fun b h => .inl h, fun b o n e => by
              rw [upd_ne (fun z => n (by rw [z]; exact k6))]
              exact s15 _ _ e⟩
            refine ⟨_, rfl, by show 1 ≤ sizeLine; decide, fun p9 h9 => ?_⟩
            have s9 := same_new (o := .lst [V.int (l.length : Int)]) h9
            refine q _ _ F (chg.then s9) (k7.same s9) ⟨p9, rfl, ?_, upd_same⟩
            refine none_of s15 ?_
            cases e9 : H5 p9 with
            | none => rfl
            | some o =>
              exfalso
              by_cases z : p9 = b2
              · rw [z, upd_same] at h9
                cases h9
              · rw [upd_ne z, e9] at h9
                cases h9
end
end Rw
end
section
set_option Elab.async false
set_option linter.all false
set_option maxRecDepth 100000
set_option maxHeartbeats 4000000
namespace Rw
open PySem PySem.Spec PyProof.Rows L2
open VapatBase (fileIn putFile dropFile namesOf flatStep inFile swapAll turnedAll appliedAll flatTree)
/-! ### another row laid in the place of one -/
theorem pr_set {α β : Type} {R : α → β → Prop} : ∀ {xs : List α} {ys : List β} {x : α} {y : β} (k : Nat), Paired R xs ys → R x y → Paired R (xs.set k x) (ys.set k y)
  | _, _, _, _, _, .nil, _ => .nil
  | _, _, _, _, 0, .cons _ t, h => .cons h t
  | _, _, _, _, k + 1, .cons r t, h => .cons r (pr_set k t h)
theorem nodup_set {α : Type} {p : α} : ∀ {l : List α} (k : Nat), l.Nodup → p ∉ l → (l.set k p).Nodup
  | [], _, _, _ => List.nodup_nil
  | _ :: l, 0, h, n => List.nodup_cons.mpr ⟨fun z => n (List.mem_cons_of_mem _ z), (List.nodup_cons.mp h).2⟩
  | x :: l, k + 1, h, n => by
    refine List.nodup_cons.mpr ⟨fun z => ?_, nodup_set k (List.nodup_cons.mp h).2 fun z => n (List.mem_cons_of_mem _ z)⟩
    rcases List.mem_or_eq_of_mem_set z with z | z
    · exact (List.nodup_cons.mp h).1 z
    · exact n (by rw [z]; exact List.mem_cons_self)
theorem ixN_nat {n k : Nat} (h : k < n) : ixN n (k : Int) = some k := by
  unfold ixN
  rw [if_pos (by omega), if_pos (by omega), Int.toNat_natCast]
section
variable {K : PySem.W.Frag} {mg : Str → Option Value}
theorem StoreV.lay {H : Hp} {x : Addr} {F : List Addr} {s : Vapatd.State} {t : VapatBase.Tree} {k : Nat} {l0 l : List PStep} {p : Addr} {vs : List V} (h : StoreV K H x F s) (et : s.tree = some t) (hk : s.rows[k]? = some l0) (hp : H p = some (.lst vs)) (nF : p ∉ F) (hs : StepsV K H vs l)
    (hl : l.length ≤ 24) (hu : ∃ u, appliedAll t l = some u) :
    ∃ (dx : Addr) (tv : V) (ra : Addr) (rs : List Addr), H x = some (.ins (He.ga K "Store") dx (fStore tv ra)) ∧ H ra = some (.lst (rs.map V.ref)) ∧ k < (rs.map V.ref).length ∧ ra ∈ F ∧ (∀ b ∈ x :: ra :: rs.set k p, b ∈ F ∨ b = p) ∧
      StoreV K (upd H ra (.lst ((rs.map V.ref).set k (.ref p)))) x (x :: ra :: rs.set k p) { s with rows := s.rows.set k l } := by
  obtain ⟨dx, tv, ra, rs, h1, h2, h3, h4, h5, h6, h7⟩ := h
  rw [h4] at h5 nF
  have n1 := List.nodup_cons.mp h5
  have n2 := List.nodup_cons.mp n1.2
  have px : p ≠ x := fun z => nF (by rw [z]; exact List.mem_cons_self)
  have pra : p ≠ ra := fun z => nF (by rw [z]; exact List.mem_cons_of_mem _ List.mem_cons_self)
  have prs : p ∉ rs := fun z => nF (List.mem_cons_of_mem _ (List.mem_cons_of_mem _ z))
  have xra : x ≠ ra := fun z => n1.1 (by rw [z]; exact List.mem_cons_self)
  have kl : k < rs.length := by
    have := (List.getElem?_eq_some_iff.mp hk).1
    rw [pr_len h3]
    exact this
  refine ⟨dx, tv, ra, rs, h1, h2, by rw [List.length_map]; exact kl, by rw [h4]; exact List.mem_cons_of_mem _ List.mem_cons_self, fun b hb => ?_, dx, tv, ra, rs.set k p, ?_, ?_, ?_, rfl, ?_, ?_, ?_⟩
  · rcases List.mem_cons.mp hb with rfl | hb
    · exact .inl (by rw [h4]; exact List.mem_cons_self)
    · rcases List.mem_cons.mp hb with rfl | hb
      · exact .inl (by rw [h4]; exact List.mem_cons_of_mem _ List.mem_cons_self)
      · rcases List.mem_or_eq_of_mem_set hb with hb | hb
        · exact .inl (by rw [h4]; exact List.mem_cons_of_mem _ (List.mem_cons_of_mem _ hb))
        · exact .inr hb
  · rw [upd_ne xra]; exact h1
  · rw [upd_same, List.map_set]
  · have base : RowsV K (upd H ra (.lst ((rs.map V.ref).set k (.ref p)))) rs s.rows := pr_mem h3 fun b m hb ⟨ws, k1, k2⟩ => ⟨ws, by rw [upd_ne (fun z => n2.1 (by rw [← z]; exact hb))]; exact k1, StepsV.upd k2 h2⟩
    exact pr_set (R := fun a l => ∃ vs, (upd H ra (.lst ((rs.map V.ref).set k (.ref p)))) a = some (.lst vs) ∧ StepsV K (upd H ra (.lst ((rs.map V.ref).set k (.ref p)))) vs l) k base ⟨vs, by rw [upd_ne pra]; exact hp, StepsV.upd hs h2⟩
  · refine List.nodup_cons.mpr ⟨fun z => ?_, List.nodup_cons.mpr ⟨fun z => ?_, nodup_set k n2.2 prs⟩⟩
    · rcases List.mem_cons.mp z with z | z
      · exact xra z
      · rcases List.mem_or_eq_of_mem_set z with z | z
        · exact n1.1 (List.mem_cons_of_mem _ z)
        · exact px z.symm
    · rcases List.mem_or_eq_of_mem_set z with z | z
      · exact n2.1 z
      · exact pra z.symm
  · unfold Good at h6 ⊢
    rw [et] at h6
    show (match s.tree with | none => _ | some t => _)
    rw [et]
    obtain ⟨q1, q2, q3⟩ := h6
    refine ⟨by rw [List.length_set]; exact q1, q2, fun m hm => ?_⟩
    rcases List.mem_or_eq_of_mem_set hm with hm | rfl
    · exact q3 m hm
    · exact ⟨hl, hu⟩
  · show (match s.tree with | none => _ | some t => _)
    rw [et] at h7 ⊢
    exact TreeV.updL h7 h2
def spDrop (K : PySem.W.Frag) : Sp := fun vs H Q _ => ∃ x F s r, vs = [.ref x, .int r] ∧ StoreV K H x F s ∧
  ∀ z H' F', Chg F F' H H' → StoreV K H' x F' (Vapatd.step s (.drop r)).1 → IntsN H H' z (Vapatd.step s (.drop r)).2 → Q z H'
/-- not of the object: new -/
theorem new_out {H0 H : Hp} {x p : Addr} {F : List Addr} {s : Vapatd.State} (hS : StoreV K H0 x F s) (s' : Same H0 H) (hp : H p = none) : p ∉ F := fun z => by
  obtain ⟨dx, tv, ra, rs, h1, h2, h3, h4, _⟩ := hS
  have h0 := none_of s' hp
  rw [h4] at z
  rcases List.mem_cons.mp z with z | z
  · rw [z, h1] at h0; cases h0
  · rcases List.mem_cons.mp z with z | z
    · rw [z, h2] at h0; cases h0
    · have go : ∀ {rs : List Addr} {ls : List (List PStep)}, RowsV K H0 rs ls → p ∈ rs → False := by
        intro rs
        induction rs with
        | nil => intro ls _ z; cases z
        | cons a rs ih =>
          intro ls h z
          cases h with
          | cons r t =>
            rcases List.mem_cons.mp z with z | z
            · obtain ⟨_, e, _⟩ := r
              rw [← z, h0] at e
              cases e
            · exact ih t z
      exact go h3 z
theorem ok_Store_drop (T : Tx K mg) : Ok K mg 10 ("Store", some "drop") ["self", "row"] (spDrop K) := by
  refine mk_ok T e_Store_drop rfl rfl sc_Store_drop (fun _ _ _ _ _ _ us hl => match us, hl with | [_, _], _ => rfl) (fun vs H Q E h => ?_) (fun P w base f cdv A outer s H vs Q E hr h => ?_)
  · obtain ⟨x, F, s, r, rfl, _⟩ := h; rfl
  · obtain ⟨x, F, st, r, rfl, hS, q⟩ := h
    refine ⟨_, (pss_cons (ps_set (i := 2) sc_Store_drop.nd rfl (Or.inl rfl) (pe_mp (k := 9) (pv 0) (hr.mono (by decide)) (pa_cons (pe_lst (pa_cons (pv 1) pa_nil)) pa_nil))) (pss_cons (ps_if (pt_cmpR op_lt (pv 2) pe_int (nomark _)) (pss_one (ps_ret (pe_lst (pa_cons (pv 2) pa_nil)))) pss_nil) (pss_cons (ps_asg (pe_lst pa_nil) (pg_sub (pe_fld (pv 0) rfl) (pv 1) set_list)) (pss_one (ps_ret (pe_lst (pa_cons pe_int pa_nil))))))), ?_⟩
    have g := hS.good
    obtain ⟨dx, tv, ra, rs, h1, _⟩ := id hS
    have mo := m_ok (c_Store T) (m_Store_refusal_for T) (ok_Store_refusal_for T)
    refine ⟨_, rfl, _, x, dx, _, _, mo, rfl, h1, lk_no (by decide +kernel) (by decide +kernel) tv ra, _, rfl, by show 1 ≤ sizeLine; decide, fun p hp => ?_⟩
    have s1 := same_new (o := .lst [V.int r]) hp
    refine ⟨x, F, st, p, [r], rfl, hS.same s1, SqL.of upd_same, by show 1 ≤ 1000; decide, fun H2 s2 => ?_⟩
    rw [ref0_one]
    have s12 := s1.trans s2
    have q : ∀ z H' F', Chg F F' H H' → StoreV K H' x F' (Vapatd.onRow st r fun _ k _ => ({ st with rows := st.rows.set k [] }, [0])).1 → IntsN H H' z (Vapatd.onRow st r fun _ k _ => ({ st with rows := st.rows.set k [] }, [0])).2 → Q z H' := q
    refine ⟨_, rfl, _, _, rfl, rfl, _, rfl, ?_⟩
    rcases one_row g r with ⟨c, hf⟩ | ⟨c, t, k, l, et, rfl, hk, hl, ⟨u, hu⟩, hf⟩
    · rw [hf] at q
      exact ite2 (fun _ => ⟨_, rfl, one_new s12 fun z H' s' hz => q _ _ F (.of s') (hS.same s') hz⟩) (fun c2 => absurd (decide_eq_true c) c2)
    · refine ite2 (fun c2 => by have := of_decide_eq_true c2; omega) (fun _ => ?_)
      rw [hf] at q
      refine ⟨by show 0 ≤ sizeLine; decide, fun p3 hp3 => ?_⟩
      have s3 := same_new (o := .lst []) hp3
      have s13 := s12.trans s3
      obtain ⟨dx2, tv2, ra2, rs2, k1, k2, k3, k4, k5, k6⟩ := (hS.same s13).lay et hk upd_same (new_out hS s12 hp3) .nil (Nat.zero_le _) ⟨t, rfl⟩
      refine ⟨_, rfl, x, _, dx2, _, _, rfl, k1, c_Store T, n_Store_rows T, lk_rows tv2 ra2, _, rfl, ra2, _, _, k, rfl, rfl, k2, ixN_nat k3, ?_⟩
      have chg : Chg F (x :: ra2 :: rs2.set k p3) H (upd (upd H2 p3 (.lst [])) ra2 (.lst ((rs2.map V.ref).set k (.ref p3)))) := ⟨fun b hb => (k5 b hb).imp id fun e => by rw [e]; exact none_of s12 hp3, fun b o n e => by
        rw [upd_ne (fun z => n (by rw [z]; exact k4))]
        exact s13 _ _ e⟩
      refine ⟨by show 1 ≤ sizeLine; decide, fun p9 h9 => ?_⟩
      have s9 := same_new (o := .lst [V.int 0]) h9
      refine q _ _ _ (chg.then s9) (k6.same s9) ⟨p9, rfl, ?_, upd_same⟩
      refine none_of s13 ?_
      cases e9 : (upd H2 p3 (.lst [])) p9 with
      | none => rfl
      | some o =>
        exfalso
        by_cases z : p9 = ra2
        · rw [z, upd_same] at h9; cases h9
        · rw [upd_ne z, e9] at h9; cases h9
def spPull (K : PySem.W.Frag) : Sp := fun vs H Q _ => ∃ x F s r q, vs = [.ref x, .int r, .int q] ∧ StoreV K H x F s ∧
  ∀ z H' F', Chg F F' H H' → StoreV K H' x F' (Vapatd.step s (.pull r q)).1 → IntsN H H' z (Vapatd.step s (.pull r q)).2 → Q z H'
theorem ok_Store_pull (T : Tx K mg) : Ok K mg 11 ("Store", some "pull") ["self", "row", "other"] (spPull K) := by
  refine mk_ok T e_Store_pull rfl rfl sc_Store_pull (fun _ _ _ _ _ _ us hl => match us, hl with | [_, _, _], _ => rfl) (fun vs H Q E h => ?_) (fun P w base f cdv A outer s H vs Q E hr h => ?_)
  · obtain ⟨x, F, s, r, q, rfl, _⟩ := h; rfl
  · obtain ⟨x, F, st, r, r2, rfl, hS, q⟩ := h
    refine ⟨_, (pss_cons (ps_set (i := 3) sc_Store_pull.nd rfl (Or.inl rfl) (pe_mp (k := 10) (pv 0) (hr.mono (by decide)) (pa_cons (pv 1) (pa_cons (pv 2) pa_nil)))) (pss_cons (ps_if (pt_cmpR op_lt (pv 3) pe_int (nomark _)) (pss_one (ps_ret (pe_lst (pa_cons (pv 3) pa_nil)))) pss_nil) (pss_cons (ps_set (i := 4) sc_Store_pull.nd rfl (Or.inl rfl) (pe_f (ok_merged T) (g_merged T) (hr.mono (by decide)) (pa_cons (pe_ix ix_list (pe_fld (pv 0) rfl) (pv 1) (fun _ _ => rfl)) (pa_cons (pe_ix ix_list (pe_fld (pv 0) rfl) (pv 2) (fun _ _ => rfl)) pa_nil)))) (pss_cons (ps_if (pt_cmpR op_isN (pv 4) pe_non (nomark _)) (pss_one (ps_ret (pe_lst (pa_cons (pe_gint (i_NOT_MERGED T)) pa_nil)))) pss_nil) (pss_cons (ps_set (i := 5) sc_Store_pull.nd rfl (Or.inl rfl) (pe_op op_cat (pe_ix ix_list (pe_fld (pv 0) rfl) (pv 1) (fun _ _ => rfl)) (pe_ix ix_tup (pv 4) pe_int (fun _ _ => rfl)))) (pss_cons (ps_if (pt_cmpR op_gt (pe_callB call_len_seq (by rfl) (z_len T) (by decide +kernel) (pa_cons (pv 5) pa_nil)) (pe_gint (i_MOST_STEPS_PULLED T)) (nomark _)) (pss_one (ps_ret (pe_lst (pa_cons (pe_gint (i_TOO_MANY T)) pa_nil)))) pss_nil) (pss_cons (ps_asg (pv 5) (pg_sub (pe_fld (pv 0) rfl) (pv 1) set_list)) (pss_one (ps_ret (pe_lst (pa_cons (pe_callB call_len_seq (by rfl) (z_len T) (by decide +kernel) (pa_cons (pv 5) pa_nil)) pa_nil))))))))))), ?_⟩
    have g := hS.good
    obtain ⟨dx, tv, ra, rs, h1, _⟩ := id hS
    have mo := m_ok (c_Store T) (m_Store_refusal_for_two T) (ok_Store_refusal_for_two T)
    refine ⟨_, rfl, _, x, dx, _, _, mo, rfl, h1, lk_no (by decide +kernel) (by decide +kernel) tv ra, _, rfl, _, rfl, x, F, st, r, r2, rfl, hS, fun H2 s12 => ?_⟩
    have q : ∀ z H' F', Chg F F' H H' → StoreV K H' x F' (Vapatd.doPull st r r2).1 → IntsN H H' z (Vapatd.doPull st r r2).2 → Q z H' := q
    unfold Vapatd.doPull at q
    refine ⟨_, rfl, _, _, rfl, rfl, _, rfl, ?_⟩
    rcases two_rows g r r2 with ⟨c, hf⟩ | ⟨c, t, k, j, l, m, et, rfl, rfl, nkj, hk, hj, hl, hm, ⟨u, hu⟩, ⟨v, hv⟩, hf⟩
    · rw [hf] at q
      exact ite2 (fun _ => ⟨_, rfl, one_new s12 fun z H' s' hz => q _ _ F (.of s') (hS.same s') hz⟩) (fun c2 => absurd (decide_eq_true c) c2)
    · refine ite2 (fun c2 => by have := of_decide_eq_true c2; omega) (fun _ => ?_)
      rw [hf] at q
      have only : ∀ {H9 : Hp} {n : Int}, Same H H9 → (∀ z H' F', Chg F F' H H' → StoreV K H' x F' st → IntsN H H' z [n] → Q z H') → ([V.int n] : List V).length ≤ sizeLine ∧ ∀ p, H9 p = none → Q (.ref p) (upd H9 p (.lst [V.int n])) :=
        fun s9 q9 => one_new s9 fun z H' s' hz => q9 _ _ F (.of s') (hS.same s') hz
      have hS2 := hS.same s12
      obtain ⟨dx1, tv1, ra1, rs1, b1, h1', h2', h3', h4', _⟩ := hS2.row hk
      obtain ⟨dx2, tv2, ra2, rs2, b2, h1'', h2'', h3'', h4'', _⟩ := hS2.row hj
      refine ⟨_, rfl, x, _, dx1, _, _, rfl, h1', c_Store T, n_Store_rows T, lk_rows tv1 ra1, _, rfl, ra1, _, _, _, rfl, rfl, SqL.of h2', atI_nat h3', _, rfl, x, _, dx2, _, _, rfl, h1'', c_Store T, n_Store_rows T, lk_rows tv2 ra2, _, rfl, ra2, _, _, _, rfl, rfl, SqL.of h2'', atI_nat h3'', ?_⟩
      refine ⟨.ref b1, .ref b2, l, m, rfl, h4', by omega, h4'', by omega, fun w H3 s3 hw => ?_⟩
      have s13 := s12.trans s3
      cases ec : Vapatd.rowsMerged l m with
      | none =>
        rw [ec] at hw
        rw [ec] at q
        cases (show w = .non from hw)
        refine ⟨_, rfl, rfl, _, rfl, ite2 (fun _ => ?_) (fun c => absurd (decide_eq_true rfl) c)⟩
        exact only s13 q
      | some z =>
        rw [ec] at hw
        rw [ec] at q
        have q : ∀ y H' F', Chg F F' H H' → StoreV K H' x F' (if 24 < l.length + m.length then (st, [-6]) else ({ st with rows := st.rows.set k (l ++ z.1) }, [((l.length + m.length : Nat) : Int)])).1 → IntsN H H' y (if 24 < l.length + m.length then (st, [-6]) else ({ st with rows := st.rows.set k (l ++ z.1) }, [((l.length + m.length : Nat) : Int)])).2 → Q y H' := q
        obtain ⟨a6, y1, y2, rfl, ha6, ⟨lb, lw, rfl, hlb, hlw⟩, _⟩ := hw
        obtain ⟨_, lv, e6, hla, hlv⟩ := h4'.same s3
        cases e6
        have mr := (rowsMerged_iff l m z.1 z.2).mp (by rw [ec])
        have nz : z.1.length = m.length := MR_len_right mr
        obtain ⟨u2, hu2, _⟩ := MR_diamond mr (good_wf g et).1 hu hv
        have n1 := pr_len hlv
        have n2 := pr_len hlw
        refine ⟨_, rfl, rfl, _, rfl, ite2 (fun c => (isN_no rfl c).elim) (fun _ => ?_)⟩
        refine ⟨_, rfl, x, _, dx1, _, _, rfl, s3 _ _ h1', c_Store T, n_Store_rows T, lk_rows tv1 ra1, _, rfl, ra1, _, _, _, rfl, rfl, SqL.of (s3 _ _ h2'), atI_nat h3', _, rfl, a6, _, _, _, rfl, rfl, SqT.of ha6, rfl, b1, lb, _, _, rfl, rfl, hla, hlb, Nat.le_trans (show _ ≤ 1000 by omega) (by decide), fun pp hpp => ?_⟩
        have s4 := same_new (o := .lst (lv ++ lw)) hpp
        have s14 := s13.trans s4
        have n3 : (lv ++ lw).length = l.length + m.length := by rw [List.length_append]; omega
        refine ⟨_, rfl, pp, _, rfl, .inl (SqL.of upd_same), _, _, rfl, rfl, _, rfl, ?_⟩
        refine ite2 (fun c4 => ?_) (fun c4 => ?_)
        · have c4 := of_decide_eq_true c4
          rw [if_pos (show 24 < l.length + m.length by omega)] at q
          exact only s14 q
        · have c4 := of_decide_eq_false (Bool.eq_false_iff.mpr c4)
          rw [if_neg (show ¬ 24 < l.length + m.length by omega)] at q
          obtain ⟨dx5, tv5, ra5, rs5, k1, k2, k3, k4, k5, k6⟩ := (hS.same s14).lay (l := l ++ z.1) et hk upd_same (new_out hS s13 hpp) (pr_app (StepsV.same s4 hlv) (StepsV.same s4 hlw)) (by rw [List.length_append]; omega) ⟨u2, (all_append _ _ _ _).mpr ⟨u, hu, hu2⟩⟩
          refine ⟨_, rfl, _, rfl, x, _, dx5, _, _, rfl, k1, c_Store T, n_Store_rows T, lk_rows tv5 ra5, _, rfl, ra5, _, _, k, rfl, rfl, k2, ixN_nat k3, ?_⟩
          have chg : Chg F (x :: ra5 :: rs5.set k pp) H (upd (upd H3 pp (.lst (lv ++ lw))) ra5 (.lst ((rs5.map V.ref).set k (.ref pp)))) := ⟨fun b hb => (k5 b hb).imp id fun e => by rw [e]; exact none_of s13 hpp, fun b o n e => by
            rw [upd_ne (fun z => n (by rw [z]; exact k4))]
            exact s14 _ _ e⟩
          have np : pp ≠ ra5 := fun z => new_out hS s13 hpp (by rw [z]; exact k4)
          refine ⟨_, rfl, pp, _, rfl, .inl (SqL.of (by rw [upd_ne np]; exact upd_same)), by show 1 ≤ sizeLine; decide, fun p9 h9 => ?_⟩
          rw [n3]
          have s9 := same_new (o := .lst [V.int ((l.length + m.length : Nat) : Int)]) h9
          refine q _ _ _ (chg.then s9) (k6.same s9) ⟨p9, rfl, ?_, upd_same⟩
          refine none_of s14 ?_
          cases e9 : (upd H3 pp (.lst (lv ++ lw))) p9 with
          | none => rfl
          | some o =>
            exfalso
            by_cases z : p9 = ra5
            · rw [z, upd_same] at h9; cases h9
            · rw [upd_ne z, e9] at h9; cases h9
end
end Rw
end
section
set_option Elab.async false
set_option linter.all false
set_option maxRecDepth 100000
set_option maxHeartbeats 4000000
namespace Rw
open PySem PySem.Spec PyProof.Rows L2
open VapatBase (fileIn putFile dropFile namesOf flatStep inFile swapAll turnedAll appliedAll flatTree)
theorem putF_tree (v tv : V) (ra : Addr) : putF ("tree" : Str) v (fStore tv ra) = fStore v ra := by
  show putF ("tree" : Str) v [("tree", tv), ("rows", .ref ra)] = _
  rw [putF, if_pos rfl]
  rfl
theorem putF_rows (tv : V) (ra rb : Addr) : putF ("rows" : Str) (.ref rb) (fStore tv ra) = fStore tv rb := by
  show putF ("rows" : Str) (.ref rb) [("tree", tv), ("rows", .ref ra)] = _
  rw [putF, if_neg (by decide +kernel), putF, if_pos rfl]
  rfl
theorem pl_no {s : Vapatd.State} {ns : List Int} (e : treeOf ns = none) : Vapatd.step s (.tree ns) = (s, [-1]) := by
  rw [← whole_tree] at e
  show (match VapatBase.whole Vapatb.readTree ns with | none => _ | some t => _) = _
  rw [e]
theorem pl_yes {s : Vapatd.State} {ns : List Int} {t : VapatBase.Tree} (e : treeOf ns = some t) : Vapatd.step s (.tree ns) = (⟨some t, List.replicate 4 []⟩, [(t.length : Int)]) := by
  rw [← whole_tree] at e
  show (match VapatBase.whole Vapatb.readTree ns with | none => _ | some t => _) = _
  rw [e]
  rfl
theorem treeOf_wf {ns : List Int} {t : VapatBase.Tree} (e : treeOf ns = some t) : wfT 12 t := by
  unfold treeOf at e
  cases hn : natAt ns 0 0 6 with
  | none => rw [hn] at e; cases e
  | some n =>
    rw [hn, Option.bind_some] at e
    have h1 : 1 ≤ ns.length := by have := (List.getElem?_eq_some_iff.mp (natAt_some hn).1).1; omega
    cases hs : scanR ns n with
    | none => rw [hs] at e; cases e
    | some u =>
      rw [hs, Option.bind_some] at e
      split at e
      · cases e
        exact (scanR_inv ns h1 n (t := u.1) (pl := u.2) hs).2.2.1
      · cases e
section
variable {K : PySem.W.Frag} {mg : Str → Option Value}
def spPlant (K : PySem.W.Frag) : Sp := fun vs H Q _ => ∃ x F s a ns, vs = [.ref x, .ref a] ∧ StoreV K H x F s ∧ SqL K H a (ns.map V.int) ∧ ns.length < sizeLine ∧
  ∀ z H' F', Chg F F' H H' → StoreV K H' x F' (Vapatd.step s (.tree ns)).1 → IntsN H H' z (Vapatd.step s (.tree ns)).2 → Q z H'
theorem ok_Store_plant (T : Tx K mg) : Ok K mg 10 ("Store", some "plant") ["self", "numbers"] (spPlant K) := by
  refine Ok.up (j := 4) ?_ (by decide)
  refine mk_ok T e_Store_plant rfl rfl sc_Store_plant (fun _ _ _ _ _ _ us hl => match us, hl with | [_, _], _ => rfl) (fun vs H Q E h => ?_) (fun P w base f cdv A outer s H vs Q E hr h => ?_)
  · obtain ⟨x, F, s, a, ns, rfl, _⟩ := h; rfl
  · obtain ⟨x, F, st, a, ns, rfl, hS, hns, hlen, q⟩ := h
    refine ⟨_, (pss_cons (ps_set (i := 2) sc_Store_plant.nd rfl (Or.inl rfl) (pe_f (ok_tree_of T) (g_tree_of T) (hr.mono (by decide)) (pa_cons (pv 1) pa_nil))) (pss_cons (ps_if (pt_cmpR op_isN (pv 2) pe_non (nomark _)) (pss_one (ps_ret (pe_lst (pa_cons (pe_gint (i_NOT_WHOLE T)) pa_nil)))) pss_nil) (pss_cons (ps_fld (pv 0) (pv 2) rfl) (pss_cons (ps_fld (pv 0) (pe_lc (own := [("number", 3)]) (g := gName 3) (by rfl) sc_Store_plant.nd (pi_range1 (by rfl) (z_range T) (pa_cons (pe_gint (i_ROWS T)) pa_nil)) (blkOk_by (own := [("number", 3)]) (N := nm_Store_plant) (sc := defScope s_Store_plant) (by decide +kernel)) (fun _ _ _ _ _ => pg_name (i := 3) sc_Store_plant.nd rfl (Or.inl rfl)) (fun _ _ _ _ _ => pts_nil) (fun _ _ _ _ _ => (pe_lst pa_nil))) rfl) (pss_one (ps_ret (pe_lst (pa_cons (pe_callB call_lenD (by rfl) (z_len T) (by decide +kernel) (pa_cons (pv 2) pa_nil)) pa_nil)))))))), ?_⟩
    refine ⟨_, rfl, a, ns, rfl, hns, hlen, fun w H1 s1 hw => ?_⟩
    cases ec : treeOf ns with
    | none =>
      rw [ec] at hw
      rw [pl_no ec] at q
      cases (show w = .non from hw)
      refine ⟨_, rfl, rfl, _, rfl, ite2 (fun _ => ?_) (fun c => absurd (decide_eq_true rfl) c)⟩
      exact one_new s1 fun z H' s' hz => q _ _ F (.of s') (hS.same s') hz
    | some t =>
      rw [ec] at hw
      rw [pl_yes ec] at q
      have hw : TreeV H1 w t := hw
      obtain ⟨d, kvs, rfl, hd, hp, hv⟩ := id hw
      refine ⟨_, rfl, rfl, _, rfl, ite2 (fun c => (isN_no rfl c).elim) (fun _ => ?_)⟩
      obtain ⟨dx, tv, ra, rs, h1, h2, h3, h4, h5, h6, h7⟩ := hS.same s1
      refine ⟨_, rfl, _, rfl, x, _, dx, _, rfl, h1, c_Store T, n_Store_tree T, (by show 2 < 1000; decide), ?_⟩
      rw [putF_tree]
      refine ⟨(4 : Int), rfl, by decide, by decide, fun D hD => lc_it (L2.walk_range (lo := 0) (n := 4)) (fun i Hc => ∃ as : List Addr, as.length = i ∧ Hc D = some (.lst (as.map V.ref)) ∧ Same (upd H1 x (.ins (He.ga K "Store") dx (fStore (.ref d) ra))) Hc ∧ as.Nodup ∧ ∀ b ∈ as, b ≠ D ∧ (upd H1 x (.ins (He.ga K "Store") dx (fStore (.ref d) ra))) b = none ∧ Hc b = some (.lst []))
        ⟨[], rfl, upd_same, same_new hD, .nil, fun b hb => by cases hb⟩ (fun _ _ _ _ => trivial) ?_ ?_⟩
      · rintro i y Hc Hy hi ⟨as, la, hacc, s', nd, hb⟩ ⟨rfl, rfl⟩
        refine ⟨rfl, ?_⟩
        refine ⟨by show 0 ≤ sizeLine; decide, fun b hb0 => ?_⟩
        have s2 := same_new (o := .lst []) hb0
        have nD : b ≠ D := fun z => by rw [z, hacc] at hb0; cases hb0
        refine ⟨_, s2 _ _ hacc, Nat.lt_of_le_of_lt (show _ ≤ 4 by rw [List.length_map]; omega) (by decide), as ++ [b], by rw [List.length_append, la]; rfl, ?_, same_mut (s'.trans s2) hD, ?_, ?_⟩
        · rw [upd_same, List.map_append]
          rfl
        · refine List.nodup_append.mpr ⟨nd, List.nodup_cons.mpr ⟨by simp, List.nodup_nil⟩, fun c hc e he z => ?_⟩
          rw [List.mem_singleton.mp he] at z
          have := (hb c hc).2.2
          rw [z, hb0] at this
          cases this
        · intro c hc
          rcases List.mem_append.mp hc with hc | hc
          · obtain ⟨k1, k2, k3⟩ := hb c hc
            exact ⟨k1, k2, by rw [upd_ne k1]; exact s2 _ _ k3⟩
          · rw [List.mem_singleton.mp hc]
            exact ⟨nD, none_of s' hb0, by rw [upd_ne nD, upd_same]⟩
      · rintro Hc ⟨as, la, hacc, s', nd, hb⟩
        have hx : upd H1 x (.ins (He.ga K "Store") dx (fStore (.ref d) ra)) x = some (.ins (He.ga K "Store") dx (fStore (.ref d) ra)) := upd_same
        refine ⟨_, rfl, x, _, dx, _, rfl, s' _ _ hx, c_Store T, n_Store_rows T, (by show 2 < 1000; decide), ?_⟩
        rw [putF_rows]
        have dX : d ≠ x := fun z => by rw [z, h1] at hd; cases hd
        have xD : x ≠ D := fun z => by rw [z, ← z, hx] at hD; cases hD
        have out : ∀ {b : Addr} {o : HO}, b ≠ x → H1 b = some o → upd Hc x (.ins (He.ga K "Store") dx (fStore (.ref d) D)) b = some o := fun n e => by
          rw [upd_ne n]
          exact s' _ _ (by rw [upd_ne n]; exact e)
        have asx : ∀ b ∈ as, b ≠ x := fun b h z => by have := (hb b h).2.1; rw [z, hx] at this; cases this
        have frs : ∀ b, upd H1 x (.ins (He.ga K "Store") dx (fStore (.ref d) ra)) b = none → H b = none := fun b e => none_of s1 (by
          by_cases z : b = x
          · rw [z, hx] at e; cases e
          · rw [upd_ne z] at e; exact e)
        refine ⟨_, rfl, d, kvs, rfl, out dX hd, by show 1 ≤ sizeLine; decide, fun p9 h9 => ?_⟩
        have s9 := same_new (o := .lst [V.int (kvs.length : Int)]) h9
        have lk : kvs.length = t.length := by have := hp.length_eq; simpa using this
        have chg : Chg F (x :: D :: as) H (upd Hc x (.ins (He.ga K "Store") dx (fStore (.ref d) D))) := by
          refine ⟨fun b h => ?_, fun b o n e => ?_⟩
          · rcases List.mem_cons.mp h with rfl | h
            · exact .inl (by rw [h4]; exact List.mem_cons_self)
            · rcases List.mem_cons.mp h with rfl | h
              · exact .inr (frs _ hD)
              · exact .inr (frs _ (hb b h).2.1)
          · exact out (fun z => n (by rw [z, h4]; exact List.mem_cons_self)) (s1 _ _ e)
        refine q _ _ (x :: D :: as) (chg.then s9) (StoreV.same s9 ?_) ⟨p9, rfl, ?_, by rw [upd_same, lk]; rfl⟩
        · refine ⟨dx, .ref d, D, as, upd_same, ?_, ?_, rfl, ?_, ?_, ?_⟩
          · rw [upd_ne (Ne.symm xD)]
            exact hacc
          · have go : ∀ (bs : List Addr), (∀ b ∈ bs, b ∈ as) → RowsV K (upd Hc x (.ins (He.ga K "Store") dx (fStore (.ref d) D))) bs (List.replicate bs.length []) := by
              intro bs
              induction bs with
              | nil => intro _; exact .nil
              | cons b bs ih =>
                intro h
                have hm := h b List.mem_cons_self
                exact .cons ⟨[], by rw [upd_ne (asx b hm)]; exact (hb b hm).2.2, .nil⟩ (ih fun c hc => h c (List.mem_cons_of_mem _ hc))
            have := go as fun _ h => h
            rw [la] at this
            exact this
          · refine List.nodup_cons.mpr ⟨fun h => ?_, List.nodup_cons.mpr ⟨fun h => (hb D h).1 rfl, nd⟩⟩
            rcases List.mem_cons.mp h with z | h
            · exact xD z
            · exact asx x h rfl
          · refine ⟨rfl, treeOf_wf ec, fun l hl => ?_⟩
            rw [List.eq_of_mem_replicate hl]
            exact ⟨Nat.zero_le _, t, rfl⟩
          · refine ⟨d, kvs, rfl, out dX hd, hp, fun y hy => ?_⟩
            obtain ⟨pq, e1, e2⟩ := hv y hy
            exact ⟨pq, e1, out (fun z => by rw [z, h1] at e2; cases e2) e2⟩
        · cases e9 : H p9 with
          | none => rfl
          | some o =>
            exfalso
            have := s1 _ _ e9
            by_cases z : p9 = x
            · rw [z, upd_same] at h9
              cases h9
            · rw [out z this] at h9
              cases h9
end
end Rw
end
section
set_option Elab.async false
set_option linter.all false
set_option maxRecDepth 100000
set_option maxHeartbeats 4000000
namespace Rw
open PySem PySem.Spec PyProof.Rows L2
/-! ### the reader of the calls -/
def fReader (a : Addr) (pl : Nat) : List (Str × V) := [("numbers", .ref a), ("place", .int (pl : Int))]
theorem lk_numbers (a : Addr) (pl : Nat) : (fReader a pl).lookup ("numbers" : Str) = some (.ref a) := rfl
theorem lk_place (a : Addr) (pl : Nat) : (fReader a pl).lookup ("place" : Str) = some (.int (pl : Int)) := by
  show List.lookup ("place" : Str) [("numbers", V.ref a), ("place", V.int (pl : Int))] = _
  rw [List.lookup, show (("place" : Str) == "numbers") = false by decide +kernel]
  rfl
theorem putF_place (a : Addr) (pl q : Nat) : putF ("place" : Str) (.int (q : Int)) (fReader a pl) = fReader a q := by
  show putF ("place" : Str) (.int (q : Int)) [("numbers", .ref a), ("place", .int (pl : Int))] = _
  rw [putF, if_neg (by decide +kernel), putF, if_pos rfl]
  rfl
theorem lk_noR {m : Str} (h1 : (m == ("numbers" : Str)) = false) (h2 : (m == ("place" : Str)) = false) (a : Addr) (pl : Nat) : (fReader a pl).lookup m = none := by
  show List.lookup m [("numbers", V.ref a), ("place", V.int (pl : Int))] = none
  rw [List.lookup, h1, List.lookup, h2]
  rfl
theorem SqL.updI {K : PySem.W.Frag} {H : Hp} {a x : Addr} {xs : List V} {C dx : Addr} {fs : List (Str × V)} {o : HO} (h : SqL K H a xs) (hx : H x = some (.ins C dx fs)) : SqL K (upd H x o) a xs := by
  have ne : ∀ u, H a = some u → (∀ C dx fs, u ≠ .ins C dx fs) → upd H x o a = some u := fun u e n => by
    rw [upd_ne (fun z => by rw [z, hx] at e; exact n _ _ _ (Option.some.inj e).symm)]
    exact e
  rcases h with (h | ⟨q, h⟩) | h
  · exact .inl (.inl (ne _ h (fun _ _ _ z => by cases z)))
  · exact .inl (.inr ⟨q, ne _ h (fun _ _ _ z => by cases z)⟩)
  · exact .inr h
section
variable {K : PySem.W.Frag} {mg : Str → Option Value}
def spReaderInit (K : PySem.W.Frag) : Sp := fun vs H Q _ => ∃ x dx a, vs = [.ref x, .ref a] ∧ H x = some (.ins (He.ga K "Reader") dx []) ∧ Q .non (upd H x (.ins (He.ga K "Reader") dx (fReader a 0)))
theorem ok_Reader_init (T : Tx K mg) : Ok K mg 1 ("Reader", some "__init__") ["self", "numbers"] (spReaderInit K) := by
  refine mk_ok T e_Reader_init rfl rfl sc_Reader_init (fun _ _ _ _ _ _ us hl => match us, hl with | [_, _], _ => rfl) (fun vs H Q E h => ?_) (fun P w base f cdv A outer s H vs Q E hr h => ?_)
  · obtain ⟨x, dx, a, rfl, _⟩ := h; rfl
  · obtain ⟨x, dx, a, rfl, hx, q⟩ := h
    refine ⟨_, (pss_cons (ps_fld (pv 0) (pv 1) rfl) (pss_one (ps_fld (pv 0) pe_int rfl))), ?_⟩
    refine ⟨_, rfl, _, rfl, x, _, dx, _, rfl, hx, c_Reader T, n_Reader_numbers T, (by show 0 < 1000; decide), ?_⟩
    refine ⟨_, rfl, x, _, dx, _, rfl, upd_same, c_Reader T, n_Reader_place T, (by show 1 < 1000; decide), ?_⟩
    rw [upd_upd]
    have e : putF ("place" : Str) (V.int 0) (putF ("numbers" : Str) (V.ref a) []) = fReader a 0 := by
      show putF ("place" : Str) (V.int 0) [(("numbers" : Str), V.ref a)] = _
      rw [putF, if_neg (by decide +kernel)]
      rfl
    rw [e]
    exact q
def spHasMore (K : PySem.W.Frag) : Sp := fun vs H Q _ => ∃ (x dx a : Addr) (ns : List Int) (pl : Nat), vs = [.ref x] ∧ H x = some (.ins (He.ga K "Reader") dx (fReader a pl)) ∧ SqL K H a (ns.map V.int) ∧ Q (.bl (decide (pl < ns.length))) H
theorem ok_Reader_has_more (T : Tx K mg) : Ok K mg 1 ("Reader", some "has_more") ["self"] (spHasMore K) := by
  refine mk_ok T e_Reader_has_more rfl rfl sc_Reader_has_more (fun _ _ _ _ _ _ us hl => match us, hl with | [_], _ => rfl) (fun vs H Q E h => ?_) (fun P w base f cdv A outer s H vs Q E hr h => ?_)
  · obtain ⟨x, dx, a, ns, pl, rfl, _⟩ := h; rfl
  · obtain ⟨x, dx, a, ns, pl, rfl, hx, ha, q⟩ := h
    refine ⟨_, (pss_one (ps_ret (pe_cmpR op_lt (pe_fld (pv 0) rfl) (pe_callB call_len_seq (by rfl) (z_len T) (by decide +kernel) (pa_cons (pe_fld (pv 0) rfl) pa_nil)) (nomark _)))), ?_⟩
    refine ⟨_, rfl, x, _, dx, _, _, rfl, hx, c_Reader T, n_Reader_place T, lk_place a pl, _, rfl, x, _, dx, _, _, rfl, hx, c_Reader T, n_Reader_numbers T, lk_numbers a pl, a, _, rfl, .inl ha, _, _, rfl, rfl, ?_⟩
    have e : decide ((pl : Int) < (((ns.map V.int).length : Nat) : Int)) = decide (pl < ns.length) := by
      rw [List.length_map, Bool.eq_iff_iff]
      simp
    show Q (.bl (decide ((pl : Int) < (((ns.map V.int).length : Nat) : Int)))) H
    rw [e]
    exact q
def spNumber (K : PySem.W.Frag) : Sp := fun vs H Q _ => ∃ (x dx a : Addr) (ns : List Int) (pl : Nat) (z : Int), vs = [.ref x] ∧ H x = some (.ins (He.ga K "Reader") dx (fReader a pl)) ∧ SqL K H a (ns.map V.int) ∧ ns[pl]? = some z ∧ Q (.int z) (upd H x (.ins (He.ga K "Reader") dx (fReader a (pl + 1))))
theorem ok_Reader_number (T : Tx K mg) : Ok K mg 1 ("Reader", some "number") ["self"] (spNumber K) := by
  refine mk_ok T e_Reader_number rfl rfl sc_Reader_number (fun _ _ _ _ _ _ us hl => match us, hl with | [_], _ => rfl) (fun vs H Q E h => ?_) (fun P w base f cdv A outer s H vs Q E hr h => ?_)
  · obtain ⟨x, dx, a, ns, pl, z, rfl, _⟩ := h; rfl
  · obtain ⟨x, dx, a, ns, pl, z, rfl, hx, ha, hz, q⟩ := h
    refine ⟨_, (pss_cons (ps_fldaug (pv 0) pe_int in_add) (pss_one (ps_ret (pe_ix ix_list (pe_fld (pv 0) rfl) (pe_op op_sub (pe_fld (pv 0) rfl) pe_int) (fun _ _ => rfl))))), ?_⟩
    refine ⟨_, rfl, x, _, dx, _, _, rfl, hx, c_Reader T, n_Reader_place T, lk_place a pl, ?_⟩
    have e : putF ("place" : Str) (V.int ((pl : Int) + 1)) (fReader a pl) = fReader a (pl + 1) := putF_place a pl (pl + 1)
    refine ⟨_, _, rfl, rfl, dx, _, hx, (by show 2 < 1000; decide), ?_⟩
    rw [e]
    have hu : upd H x (.ins (He.ga K "Reader") dx (fReader a (pl + 1))) x = some (.ins (He.ga K "Reader") dx (fReader a (pl + 1))) := upd_same
    refine ⟨_, rfl, x, _, dx, _, _, rfl, hu, c_Reader T, n_Reader_numbers T, lk_numbers a _, _, rfl, x, _, dx, _, _, rfl, hu, c_Reader T, n_Reader_place T, lk_place a _, _, _, rfl, rfl, a, _, (pl : Int), _, rfl, ?_, SqL.updI ha hx, atI_nat (V_at hz), q⟩
    show V.int (((pl + 1 : Nat) : Int) - 1) = V.int (pl : Int)
    exact congrArg V.int (by omega)
def spRun (K : PySem.W.Frag) : Sp := fun vs H Q _ => ∃ (x dx a : Addr) (ns : List Int) (pl n : Nat), vs = [.ref x] ∧ H x = some (.ins (He.ga K "Reader") dx (fReader a pl)) ∧ SqL K H a (ns.map V.int) ∧ ns[pl]? = some (n : Int) ∧ pl + 1 + n ≤ ns.length ∧
  ∀ p, upd H x (.ins (He.ga K "Reader") dx (fReader a (pl + 1 + n))) p = none → Q (.ref p) (upd (upd H x (.ins (He.ga K "Reader") dx (fReader a (pl + 1 + n)))) p (.lst (((ns.drop (pl + 1)).take n).map V.int)))
theorem ok_Reader_run (T : Tx K mg) : Ok K mg 2 ("Reader", some "run") ["self"] (spRun K) := by
  refine mk_ok T e_Reader_run rfl rfl sc_Reader_run (fun _ _ _ _ _ _ us hl => match us, hl with | [_], _ => rfl) (fun vs H Q E h => ?_) (fun P w base f cdv A outer s H vs Q E hr h => ?_)
  · obtain ⟨x, dx, a, ns, pl, n, rfl, _⟩ := h; rfl
  · obtain ⟨x, dx, a, ns, pl, n, rfl, hx, ha, hz, hn, q⟩ := h
    refine ⟨_, (pss_cons (ps_set (i := 1) sc_Reader_run.nd rfl (Or.inl rfl) (pe_mp0 (k := 1) (pv 0) (hr.mono (by decide)))) (pss_cons (ps_fldaug (pv 0) (pv 1) in_add) (pss_one (ps_ret (pe_slice sl_list (pe_fld (pv 0) rfl) (po_some (pe_op op_sub (pe_fld (pv 0) rfl) (pv 1))) (po_some (pe_fld (pv 0) rfl))))))), ?_⟩
    have mo := m_ok (c_Reader T) (m_Reader_number T) (ok_Reader_number T)
    refine ⟨_, rfl, _, x, dx, _, _, mo, rfl, hx, lk_noR (by decide +kernel) (by decide +kernel) a pl, x, dx, a, ns, pl, _, rfl, hx, ha, hz, ?_⟩
    have e : putF ("place" : Str) (V.int (((pl + 1 : Nat) : Int) + (n : Int))) (fReader a (pl + 1)) = fReader a (pl + 1 + n) := putF_place a (pl + 1) (pl + 1 + n)
    refine ⟨_, rfl, x, _, dx, _, _, rfl, upd_same, c_Reader T, n_Reader_place T, lk_place a _, _, rfl, _, _, rfl, rfl, dx, _, upd_same, (by show 2 < 1000; decide), ?_⟩
    rw [e, upd_upd]
    have hu : upd H x (.ins (He.ga K "Reader") dx (fReader a (pl + 1 + n))) x = some (.ins (He.ga K "Reader") dx (fReader a (pl + 1 + n))) := upd_same
    refine ⟨_, rfl, x, _, dx, _, _, rfl, hu, c_Reader T, n_Reader_numbers T, lk_numbers a _, _, rfl, x, _, dx, _, _, rfl, hu, c_Reader T, n_Reader_place T, lk_place a _, _, rfl, _, _, rfl, rfl, _, rfl, _, rfl, x, _, dx, _, _, rfl, hu, c_Reader T, n_Reader_place T, lk_place a _, _, rfl, a, _, rfl, SqL.updI ha hx, fun p hp => ?_⟩
    rw [cut_ints ns _ _ (pl + 1) (pl + 1 + n) (by omega) rfl (by omega), show pl + 1 + n - (pl + 1) = n from by omega]
    exact q p hp
end
end Rw
end
section
set_option Elab.async false
set_option linter.all false
set_option maxRecDepth 100000
set_option maxHeartbeats 4000000
namespace Rw
open PySem PySem.Spec PyProof.Rows L2
section
variable {K : PySem.W.Frag} {mg : Str → Option Value}
def spStoreInit (K : PySem.W.Frag) : Sp := fun vs H Q _ => ∃ (x dx : Addr), vs = [.ref x] ∧ H x = some (.ins (He.ga K "Store") dx []) ∧
  ∀ ra, H ra = none → ra ≠ x → Q .non (upd (upd H ra (.lst [])) x (.ins (He.ga K "Store") dx (fStore .non ra)))
theorem ok_Store_init (T : Tx K mg) : Ok K mg 1 ("Store", some "__init__") ["self"] (spStoreInit K) := by
  refine mk_ok T e_Store_init rfl rfl sc_Store_init (fun _ _ _ _ _ _ us hl => match us, hl with | [_], _ => rfl) (fun vs H Q E h => ?_) (fun P w base f cdv A outer s H vs Q E hr h => ?_)
  · obtain ⟨x, dx, rfl, _⟩ := h; rfl
  · obtain ⟨x, dx, rfl, hx, q⟩ := h
    refine ⟨_, (pss_cons (ps_fld (pv 0) pe_non rfl) (pss_one (ps_fld (pv 0) (pe_lst pa_nil) rfl))), ?_⟩
    refine ⟨_, rfl, x, _, dx, _, rfl, hx, c_Store T, n_Store_tree T, (by show 0 < 1000; decide), ?_⟩
    refine ⟨by show 0 ≤ sizeLine; decide, fun ra hra => ?_⟩
    have ne : ra ≠ x := fun z => by rw [z, upd_same] at hra; cases hra
    have h0 : H ra = none := by rw [upd_ne ne] at hra; exact hra
    have hx2 : upd (upd H x (.ins (He.ga K "Store") dx (putF ("tree" : Str) .non []))) ra (.lst []) x = some (.ins (He.ga K "Store") dx (putF ("tree" : Str) .non [])) := by
      rw [upd_ne (Ne.symm ne), upd_same]
    refine ⟨_, rfl, x, _, dx, _, rfl, hx2, c_Store T, n_Store_rows T, (by show 1 < 1000; decide), ?_⟩
    have e : putF ("rows" : Str) (V.ref ra) (putF ("tree" : Str) V.non []) = fStore .non ra := by
      show putF ("rows" : Str) (V.ref ra) [(("tree" : Str), V.non)] = _
      rw [putF, if_neg (by decide +kernel)]
      rfl
    have eh : ∀ o o2 : HO, upd (upd (upd H x o) ra (.lst [])) x o2 = upd (upd H ra (.lst [])) x o2 := fun o o2 => by
      funext b
      by_cases z : b = x
      · rw [z, upd_same, upd_same]
      · rw [upd_ne z, upd_ne z]
        by_cases z2 : b = ra
        · rw [z2, upd_same, upd_same]
        · rw [upd_ne z2, upd_ne z2, upd_ne z]
    rw [e, eh]
    exact q ra h0 ne
/-- a new object, empty -/
theorem store_start {H : Hp} {x dx ra : Addr} (hne : ra ≠ x) : StoreV K (upd (upd H ra (.lst [])) x (.ins (He.ga K "Store") dx (fStore .non ra))) x [x, ra] Vapatd.start :=
  ⟨dx, .non, ra, [], upd_same, by rw [upd_ne hne, upd_same]; rfl, .nil, rfl, by simp [Ne.symm hne], rfl, rfl⟩
end
end Rw
end
section
set_option Elab.async false
set_option linter.all false
set_option maxRecDepth 100000
set_option maxHeartbeats 4000000
namespace Rw
open PySem PySem.Spec PyProof.Rows L2
/-! ### writing what is no part of the object -/
structure Apart (u : HO) : Prop where
  tup : ∀ xs, u ≠ .tup xs
  dic : ∀ kvs, u ≠ .dK kvs
  ins : ∀ C dx fs, u = .ins C dx fs → fs.lookup ("file" : Str) = none ∧ fs.lookup ("old_name" : Str) = none
theorem apart_lst (xs : List V) : Apart (.lst xs) := ⟨fun _ z => (by cases z), fun _ z => (by cases z), fun _ _ _ z => (by cases z)⟩
theorem apart_reader (C dx a : Addr) (pl : Nat) : Apart (.ins C dx (fReader a pl)) := ⟨fun _ z => (by cases z), fun _ z => (by cases z), fun _ _ _ z => (by
  cases z
  exact ⟨lk_noR (by decide +kernel) (by decide +kernel) a pl, lk_noR (by decide +kernel) (by decide +kernel) a pl⟩)⟩
section
variable {K : PySem.W.Frag} {H : Hp} {a : Addr} {u o : HO} (ha : H a = some u) (hu : Apart u)
include ha hu
theorem ap_tup {b : Addr} {xs : List V} (h : H b = some (.tup xs)) : upd H a o b = some (.tup xs) := by
  rw [upd_ne (fun z => by rw [z, ha] at h; exact hu.tup _ (Option.some.inj h))]
  exact h
theorem ap_dic {b : Addr} {kvs : List (Key × V)} (h : H b = some (.dK kvs)) : upd H a o b = some (.dK kvs) := by
  rw [upd_ne (fun z => by rw [z, ha] at h; exact hu.dic _ (Option.some.inj h))]
  exact h
theorem ap_file {b C dx : Addr} {fs : List (Str × V)} {v : V} (h : H b = some (.ins C dx fs)) (hf : fs.lookup ("file" : Str) = some v) : upd H a o b = some (.ins C dx fs) := by
  rw [upd_ne (fun z => by
    rw [z, ha] at h
    have := (hu.ins _ _ _ (Option.some.inj h)).1
    rw [hf] at this
    cases this)]
  exact h
theorem ap_old {b C dx : Addr} {fs : List (Str × V)} {v : V} (h : H b = some (.ins C dx fs)) (hf : fs.lookup ("old_name" : Str) = some v) : upd H a o b = some (.ins C dx fs) := by
  rw [upd_ne (fun z => by
    rw [z, ha] at h
    have := (hu.ins _ _ _ (Option.some.inj h)).2
    rw [hf] at this
    cases this)]
  exact h
theorem StepV.ap {v : V} {p : PStep} (h : StepV K H v p) : StepV K (L2.upd H a o) v p := by
  obtain ⟨hw, x, dx, e, h⟩ := h
  refine ⟨hw, x, dx, e, ?_⟩
  cases p with
  | hunk f a2 o2 n =>
    obtain ⟨po, pn, h1, h2, h3⟩ := h
    exact ⟨po, pn, ap_file ha hu h1 l_Hunk_file, ap_tup ha hu h2, ap_tup ha hu h3⟩
  | swap f _ _ => exact ap_file ha hu h l_Swap_file
  | add f => exact ap_file ha hu h l_Added_file
  | remove f => exact ap_file ha hu h l_Added_file
  | move f g => exact ap_old ha hu h l_Moved_old_name
theorem TreeV.ap {v : V} {t : VapatBase.Tree} (h : TreeV H v t) : TreeV (L2.upd H a o) v t := by
  obtain ⟨d, kvs, e, h1, h2, h3⟩ := h
  exact ⟨d, kvs, e, ap_dic ha hu h1, h2, fun x hx => let ⟨q, e, hq⟩ := h3 x hx; ⟨q, e, ap_tup ha hu hq⟩⟩
theorem StoreV.ap {x : Addr} {F : List Addr} {s : Vapatd.State} (h : StoreV K H x F s) (ne : a ∉ F) : StoreV K (L2.upd H a o) x F s := by
  obtain ⟨dx, tv, ra, rs, h1, h2, h3, h4, h5, h6, h7⟩ := h
  have n1 : ∀ b ∈ F, b ≠ a := fun b hb z => ne (by rw [← z]; exact hb)
  refine ⟨dx, tv, ra, rs, ?_, ?_, ?_, h4, h5, h6, ?_⟩
  · rw [upd_ne (n1 x (by rw [h4]; exact List.mem_cons_self))]
    exact h1
  · rw [upd_ne (n1 ra (by rw [h4]; exact List.mem_cons_of_mem _ List.mem_cons_self))]
    exact h2
  · refine pr_mem h3 fun b m hb ⟨vs, k1, k2⟩ => ⟨vs, ?_, Paired.mapP k2 fun _ _ z => StepV.ap ha hu z⟩
    rw [upd_ne (n1 b (by rw [h4]; exact List.mem_cons_of_mem _ (List.mem_cons_of_mem _ hb)))]
    exact k1
  · cases e : s.tree with
    | none => rw [e] at h7; exact h7
    | some t => rw [e] at h7; exact TreeV.ap ha hu h7
end
end Rw
end
section
set_option Elab.async false
set_option linter.all false
set_option maxRecDepth 100000
set_option maxHeartbeats 4000000
namespace Rw
open PySem PySem.Spec PyProof.Rows L2
/-! ### the numbers handed in stay -/
def KeepL (K : PySem.W.Frag) (H : Hp) (F : List Addr) (a : Addr) (xs : List V) : Prop := SqL K (fun _ => none) a xs ∨ (Rd H a (.lst xs) ∧ a ∉ F)
theorem KeepL.sq {K : PySem.W.Frag} {H : Hp} {F : List Addr} {a : Addr} {xs : List V} (h : KeepL K H F a xs) : SqL K H a xs := by
  rcases h with h | ⟨h, _⟩
  · rcases h with (h | ⟨_, h⟩) | h
    · cases h
    · cases h
    · exact .inr h
  · exact .inl h
theorem KeepL.start {K : PySem.W.Frag} {H : Hp} {a : Addr} {xs : List V} (h : SqL K H a xs) : KeepL K H [] a xs := by
  rcases h with h | h
  · exact .inr ⟨h, by simp⟩
  · exact .inl (.inr h)
theorem KeepL.go {K : PySem.W.Frag} {H H' : Hp} {F F' : List Addr} {a r : Addr} {xs : List V} {C dx : Addr} {fs : List (Str × V)} (h : KeepL K H F a xs) (hr : H r = some (.ins C dx fs)) (h1 : ∀ b ∈ F', b ∈ F ∨ H b = none) (h2 : ∀ b o, b ∉ F → b ≠ r → H b = some o → H' b = some o) : KeepL K H' F' a xs := by
  rcases h with h | ⟨h, n⟩
  · exact .inl h
  · have known : ∃ o, H a = some o := by rcases h with h | ⟨o, h⟩ <;> exact ⟨_, h⟩
    obtain ⟨o, ho⟩ := known
    have ne : a ≠ r := fun z => by
      subst z
      rcases h with h | ⟨o2, h⟩
      · rw [hr] at h; cases h
      · rw [hr] at h; cases h
    refine .inr ⟨?_, fun z => ?_⟩
    · rcases h with h | ⟨o2, h⟩
      · exact .inl (h2 a _ n ne h)
      · exact .inr ⟨o2, h2 a _ n ne h⟩
    · rcases h1 a z with z | z
      · exact n z
      · rw [ho] at z; cases z
theorem KeepL.sub {K : PySem.W.Frag} {H : Hp} {F G : List Addr} {a : Addr} {xs : List V} (h : KeepL K H G a xs) (s : ∀ b ∈ F, b ∈ G) : KeepL K H F a xs := h.imp id fun k => ⟨k.1, fun z => k.2 (s a z)⟩
theorem KeepL.same {K : PySem.W.Frag} {H H' : Hp} {F : List Addr} {a : Addr} {xs : List V} (h : KeepL K H F a xs) (s : Same H H') : KeepL K H' F a xs := by
  rcases h with h | ⟨h, n⟩
  · exact .inl h
  · refine .inr ⟨?_, n⟩
    rcases h with h | ⟨o, h⟩
    · exact .inl (s _ _ h)
    · exact .inr ⟨o, s _ _ h⟩
/-- a def called from without -/
def OkA (K : PySem.W.Frag) (mg : Str → Option Value) (k : Nat) (p : Str × Option Str) (ps : List Str) (sp : Sp) : Prop :=
  ∃ fd : FuncData, (∀ (s : Shared) (us : List Value), us.length = ps.length → BindsTo s fd ⟨us, []⟩ (ps.zip us)) ∧ ∀ (P : Program) (w : World) (base : Heap), FnOk P w K mg base CX0 k (He.fAd K p) fd ps sp
theorem mk_okA {K : PySem.W.Frag} {mg : Str → Option Value} (T : Tx K mg) {i : Nat} {d : He.DefD} (e : fns[i]? = some d) (hd : d.dfl = []) (hk : d.kwd = []) {N ps : List Str} {k : Nat} {sp : Sp} (S : FnScope N ps d.scope)
    (hb : ∀ (kV doc pm : Value) (an : Option Addr) (cdv ct : Value) (us : List Value), us.length = ps.length → bindArgs (PySem.W.fnOf d.name d.qual d.params d.body d.scope .none kV doc pm an cdv ct) ⟨us, []⟩ = pure (ps.zip us))
    (len : ∀ vs H Q E, sp vs H Q E → vs.length = ps.length)
    (body : ∀ (P : Program) (w : World) (base : Heap) (f : Addr) (cdv : Value) (A : Around) (outer : List Env) (s : Shared) (H : Hp) (vs : List V) (Q : VK) (E : XK), Room k (A.deeper (envOfC d.qual d.scope s.heap.objs.size f cdv)) → sp vs H Q E →
      ∃ t, PSs (cxOf CX0 P w K mg base N d.qual d.scope f cdv A outer s H E).nox d.body t ∧ t { nx := fun _ H' => Q .non H', rt := Q } (start N vs) H) : OkA K mg (k + 1) d.at_ ps sp := by
  obtain ⟨fd, F⟩ := T.says.def_ i e
  have e1 : d.dvs K = [] := by rw [He.DefD.dvs, hd] <;> rfl
  have e2 : d.kws K = [] := by rw [He.DefD.kws, hk] <;> rfl
  rw [e1, e2] at F
  exact ⟨fd, F.bindsA hb, fun P w base => F.ok S len fun cdv A outer s H vs Q E hr hs => (body P w base _ cdv A outer s H vs Q E hr hs).elim fun t z => ⟨t, z.1.nox, z.2⟩⟩
section
variable {K : PySem.W.Frag} {mg : Str → Option Value}
/-- the answer to the call that comes -/
def spNow (K : PySem.W.Frag) : Sp := fun vs H Q _ => ∃ (x r dx a : Addr) (F : List Addr) (s : Vapatd.State) (ns : List Int) (pl q : Nat) (k : Vapatd.Call), vs = [.ref x, .ref r] ∧ StoreV K H x F s ∧ H r = some (.ins (He.ga K "Reader") dx (fReader a pl)) ∧ r ∉ F ∧
  KeepL K H F a (ns.map V.int) ∧ ns.length < sizeLine ∧ FrontK ns pl k q ∧ FewK k ∧
  ∀ z H' F', (∀ b ∈ F', b ∈ F ∨ H b = none) → (∀ b o, b ∉ F → b ≠ r → H b = some o → H' b = some o) → H' r = some (.ins (He.ga K "Reader") dx (fReader a q)) → StoreV K H' x F' (Vapatd.step s k).1 → IntsN H H' z (Vapatd.step s k).2 → Q z H'
theorem make_store {H : Hp} {P : Hp → Prop} {x dx : Addr} (hx : H x = none) (hdx : H dx = none) (k : ∀ ra H1, Same H H1 → StoreV K H1 x [x, ra] Vapatd.start → H ra = none → P H1) :
    spStoreInit K [.ref x] (upd (upd H dx (.own x)) x (.ins (He.ga K "Store") dx [])) (fun v H2 => v = .non ∧ P H2) E0 := by
  refine ⟨x, dx, rfl, upd_same, fun ra hra nra => ⟨rfl, ?_⟩⟩
  have hra0 : H ra = none := none_of (same_mut (same_new hdx) hx) hra
  exact k ra _ (same_mut (same_mut (same_mut (same_new hdx) hx) hra0) hx) (store_start nra) hra0
theorem make_reader {H : Hp} {P : Hp → Prop} {a r dr : Addr} (hr : H r = none) (hdr : H dr = none) (k : ∀ H1, Same H H1 → H1 r = some (.ins (He.ga K "Reader") dr (fReader a 0)) → P H1) :
    spReaderInit K [.ref r, .ref a] (upd (upd H dr (.own r)) r (.ins (He.ga K "Reader") dr [])) (fun v H2 => v = .non ∧ P H2) E0 :=
  ⟨r, dr, a, rfl, upd_same, rfl, k _ (same_mut (same_mut (same_new hdr) hr) hr) upd_same⟩
def spAnswers (K : PySem.W.Frag) : Sp := fun vs H Q _ => ∃ (a : Addr) (ns : List Int), vs = [.ref a] ∧ SqL K H a (ns.map V.int) ∧ ns.length < sizeLine ∧ PyVapatd.answers_asked ns = true ∧ ∀ z H', Same H H' → IntsN H H' z (PyVapatd.answers ns) → Q z H'
theorem ok_answers_of (T : Tx K mg) (oN : Ok K mg 14 ("answer_now", none) ["store", "reader"] (spNow K)) : OkA K mg 15 ("answers", none) ["calls"] (spAnswers K) := by
  refine mk_okA T e_answers rfl rfl sc_answers (fun _ _ _ _ _ _ us hl => match us, hl with | [_], _ => rfl) (fun vs H Q E h => ?_) (fun P w base f cdv A outer s H vs Q E hr h => ?_)
  · obtain ⟨a, ns, rfl, _⟩ := h; rfl
  · obtain ⟨a, ns, rfl, ha, hlen, hask, q⟩ := h
    have ok_answer_now := fun _ : Tx K mg => oN
    refine ⟨_, (pss_cons (ps_set (i := 1) sc_answers.nd rfl (Or.inl rfl) (pe_mk0 (ok_Store_init T) (k_Store T) (g_Store T) (hr.mono (by decide)))) (pss_cons (ps_set (i := 2) sc_answers.nd rfl (Or.inl rfl) (pe_mk (ok_Reader_init T) (k_Reader T) (g_Reader T) (hr.mono (by decide)) (pa_cons (pv 0) pa_nil))) (pss_cons (ps_set (i := 3) sc_answers.nd rfl (Or.inl rfl) (pe_lst pa_nil)) (pss_cons (ps_while PassesOwn.never (pt_val (pe_mp0 (k := 1) (pv 2) (hr.mono (by decide)))) (pss_cons (ps_set (i := 4) sc_answers.nd rfl (Or.inl rfl) (pe_f (ok_answer_now T) (g_answer_now T) (hr.mono (by decide)) (pa_cons (pv 1) (pa_cons (pv 2) pa_nil)))) (pss_cons (ps_expr (pe_bm PySem.F.plainAttrs_list PySem.F.slot_list_append PySem.F.type_list_append mt_append (pv 3) (pa_cons (pe_callB call_len_seq (by rfl) (z_len T) (by decide +kernel) (pa_cons (pv 4) pa_nil)) pa_nil))) (pss_one (ps_expr (pe_bm PySem.F.plainAttrs_list PySem.F.slot_list_extend PySem.F.type_list_extend mt_extend (pv 3) (pa_cons (pv 4) pa_nil))))))) (pss_one (ps_ret (pv 3))))))), ?_⟩
    obtain ⟨ht, hout⟩ := tell_start hask
    intro x dx hx hdx nxd
    refine make_store (K := K) (H := H) hx hdx fun ra H1 s1 hS0 hra => ?_
    refine ⟨_, rfl, fun r dr hr hdr nrd => make_reader (K := K) (H := H1) hr hdr fun H2 s2 hR => ?_⟩
    refine ⟨by show 0 ≤ sizeLine; decide, fun g hg => ?_⟩
    have s3 := same_new (o := .lst []) hg
    have hr0 := none_of s1 hr
    have hg0 := none_of (s1.trans s2) hg
    have fr : r ∉ [x, ra] := fun z => by
      obtain ⟨_, _, _, _, k1, k2, _, k4, _⟩ := hS0
      rcases List.mem_cons.mp z with z | z
      · rw [z, k1] at hr; cases hr
      · have e := List.mem_singleton.mp z
        injection k4 with _ k4
        injection k4 with k4 _
        rw [e, k4, k2] at hr
        cases hr
    have gr : g ≠ r := fun z => by rw [z, hR] at hg; cases hg
    have gf : g ∉ [x, ra] := fun z => by
      have hg1 := none_of s2 hg
      obtain ⟨_, _, _, _, k1, k2, _, k4, _⟩ := hS0
      rcases List.mem_cons.mp z with z | z
      · rw [z, k1] at hg1; cases hg1
      · have e := List.mem_singleton.mp z
        injection k4 with _ k4
        injection k4 with k4 _
        rw [e, k4, k2] at hg1
        cases hg1
    have key : KeepL K (upd H2 g (.lst [])) (g :: [x, ra]) a (ns.map V.int) := by
      rcases KeepL.start ha with h | ⟨h, _⟩
      · exact .inl h
      · have h2 : Rd (upd H2 g (.lst [])) a (.lst (ns.map V.int)) := by
          rcases h with h | ⟨o, h⟩
          · exact .inl (s3 _ _ (s2 _ _ (s1 _ _ h)))
          · exact .inr ⟨o, s3 _ _ (s2 _ _ (s1 _ _ h))⟩
        refine .inr ⟨h2, fun z => ?_⟩
        have known : ∃ o, H a = some o := by rcases h with h | ⟨o, h⟩ <;> exact ⟨_, h⟩
        obtain ⟨o, ho⟩ := known
        rcases List.mem_cons.mp z with z | z
        · rw [z, hg0] at ho; cases ho
        rcases List.mem_cons.mp z with z | z
        · rw [z, hx] at ho; cases ho
        · rw [List.mem_singleton.mp z, hra] at ho; cases ho
    refine ⟨fun m σ Hc => ∃ s F pl rest done w4, σ = [some (V.ref a), some (V.ref x), some (V.ref r), some (V.ref g), w4] ∧ m = ns.length - pl ∧ StoreV K Hc x F s ∧ Hc r = some (.ins (He.ga K "Reader") dr (fReader a pl)) ∧ r ∉ F ∧ g ∉ F ∧ KeepL K Hc (g :: F) a (ns.map V.int) ∧
      Hc g = some (.lst ((done : List Int).map V.int)) ∧ Tell ns pl s rest ∧ PyVapatd.answers ns = done ++ rest ∧ Same H Hc ∧ ∀ b ∈ F, H b = none,
      ⟨_, Vapatd.start, [x, ra], 0, _, [], none, rfl, rfl, (hS0.same s2).same s3, s3 _ _ hR, fr, gf, key, upd_same, ht, rfl, (s1.trans s2).trans s3, ?_⟩, ?_⟩
    · intro b hb
      rcases List.mem_cons.mp hb with z | z
      · rw [z]; exact hx
      · rw [List.mem_singleton.mp z]; exact hra
    rintro m σ Hc ⟨st, F, pl, rest, done, w4, rfl, rfl, hS, hRc, fr, gf, key, hgc, ht, hall, sc, fF⟩
    have mo := m_ok (c_Reader T) (m_Reader_has_more T) (ok_Reader_has_more T)
    refine ⟨_, rfl, _, r, dr, _, _, mo, rfl, hRc, lk_noR (by decide +kernel) (by decide +kernel) a pl, r, dr, a, ns, pl, rfl, hRc, key.sq, ?_⟩
    refine ⟨_, rfl, ?_⟩
    rcases tell_next ht with ⟨hl, rfl⟩ | ⟨hl, k, q2, rest2, hk, hfew, h1, h2, ht2, rfl⟩
    · rw [decide_eq_false (show ¬ pl < ns.length by omega)]
      refine ⟨_, rfl, q _ _ sc ⟨g, rfl, hg0, ?_⟩⟩
      rw [hgc, hall, List.append_nil]
    · rw [decide_eq_true hl]
      refine ⟨_, fun _ _ h => h, ?_⟩
      refine ⟨_, rfl, _, rfl, x, r, dr, a, F, st, ns, pl, q2, k, rfl, hS, hRc, fr, key.sub (fun b hb => List.mem_cons_of_mem _ hb), hlen, hk, hfew, fun z H4 F2 c1 c2 hr4 hS4 hz => ?_⟩
      obtain ⟨b, rfl, hb, hb4⟩ := hz
      have hg4 := c2 g _ gf gr hgc
      have gb : b ≠ g := fun z => by rw [z, hgc] at hb; cases hb
      have hlen2 : done.length + (1 + (Vapatd.step st k).2.length) ≤ 10000000 := by
        have := hout
        rw [hall, List.length_append, List.length_cons, List.length_append] at this
        omega
      have big : 10000000 < sizeLine := by decide
      refine ⟨_, rfl, .inl ⟨rfl, _, SqL.of hg4⟩, _, rfl, b, _, rfl, .inl (SqL.of hb4), g, _, _, rfl, rfl, hg4, ?_, ?_⟩
      · rw [List.length_map]
        omega
      have hb5 : ∀ o : HO, upd H4 g o b = some (.lst ((Vapatd.step st k).2.map V.int)) := fun o => by rw [upd_ne gb]; exact hb4
      refine ⟨_, rfl, .inl ⟨rfl, _, SqL.of upd_same⟩, _, rfl, g, b, _, _, rfl, rfl, upd_same, hb5 _, ?_, ?_⟩
      · rw [List.length_append, List.length_map, List.length_map, List.length_cons, List.length_nil]
        omega
      have g2 : g ∉ F2 := fun z => by
        rcases c1 g z with z | z
        · exact gf z
        · rw [hgc] at z; cases z
      have r2 : r ∉ F2 := fun z => by
        rcases c1 r z with z | z
        · exact fr z
        · rw [hRc] at z; cases z
      rw [upd_upd]
      have kp : ∀ o : HO, KeepL K (upd H4 g o) (g :: F2) a (ns.map V.int) := fun o => by
        rcases key with h | ⟨h0, n0⟩
        · exact .inl h
        · have ag : a ≠ g := fun z => n0 (by rw [z]; exact List.mem_cons_self)
          rcases KeepL.go (.inr ⟨h0, fun z => n0 (List.mem_cons_of_mem _ z)⟩) hRc c1 c2 with h | ⟨h, n⟩
          · exact .inl h
          · refine .inr ⟨?_, fun z => ?_⟩
            · rcases h with h | ⟨o2, h⟩
              · exact .inl (by rw [upd_ne ag]; exact h)
              · exact .inr ⟨o2, by rw [upd_ne ag]; exact h⟩
            · rcases List.mem_cons.mp z with z | z
              · exact ag z
              · exact n z
      refine ⟨ns.length - q2, by omega, (Vapatd.step st k).1, F2, q2, rest2, done ++ (((Vapatd.step st k).2.length : Int) :: (Vapatd.step st k).2), some (.ref b), rfl, rfl, StoreV.ap hg4 (apart_lst _) hS4 g2, by rw [upd_ne (Ne.symm gr)]; exact hr4, r2, g2, kp _, ?_, ht2, by rw [hall]; simp, ?_, ?_⟩
      · rw [upd_same]
        simp
      · exact same_mut (fun b2 o2 e2 => c2 b2 o2 (fun z => by rw [fF b2 z] at e2; cases e2) (fun z => by rw [z, hr0] at e2; cases e2) (sc _ _ e2)) hg0
      · intro b2 hb2
        rcases c1 b2 hb2 with z | z
        · exact fF b2 z
        · exact none_of sc z
end
end Rw
end
section
set_option Elab.async false
set_option linter.all false
set_option maxRecDepth 100000
set_option maxHeartbeats 4000000
namespace Rw
open PySem PySem.Spec PyProof.Rows L2
/-! ### calls that only look -/
theorem onRow_fst {s : Vapatd.State} {r : Int} {f : VapatBase.Tree → Nat → List PStep → Vapatd.State × Vapatd.Answer} (h : ∀ t k l, (f t k l).1 = s) : (Vapatd.onRow s r f).1 = s := by
  unfold Vapatd.onRow Vapatd.onTree
  cases s.tree with
  | none => rfl
  | some t =>
    simp only
    cases Vapatd.rowOf s r with
    | none => rfl
    | some x => exact h _ _ _
theorem onRows_fst {s : Vapatd.State} {r q : Int} {f : VapatBase.Tree → Nat → List PStep → List PStep → Vapatd.State × Vapatd.Answer} (h : ∀ t k l m, (f t k l m).1 = s) : (Vapatd.onRows s r q f).1 = s := by
  unfold Vapatd.onRows
  refine onRow_fst fun t k l => ?_
  cases Vapatd.rowOf s q with
  | none => rfl
  | some y =>
    simp only
    split
    · rfl
    · exact h _ _ _ _
theorem all_fst (s : Vapatd.State) (l : List Int) : (Vapatd.step s (.all l)).1 = s := by
  show (Vapatd.onTree s fun t => (s, _)).1 = s
  unfold Vapatd.onTree
  cases s.tree <;> rfl
/-! ### the object beside the reader -/
structure At (K : PySem.W.Frag) (H0 : Hp) (x r dr a : Addr) (F : List Addr) (s : Vapatd.State) (ns : List Int) (H : Hp) (pl : Nat) : Prop where
  st : StoreV K H x F s
  rd : H r = some (.ins (He.ga K "Reader") dr (fReader a pl))
  sq : SqL K H a (ns.map V.int)
  ch : ∀ b o, b ≠ r → H0 b = some o → H b = some o
section
variable {K : PySem.W.Frag} {mg : Str → Option Value} {H0 : Hp} {x r dr a : Addr} {F : List Addr} {s : Vapatd.State} {ns : List Int}
theorem At.same {H H' : Hp} {pl : Nat} (A : At K H0 x r dr a F s ns H pl) (s' : Same H H') : At K H0 x r dr a F s ns H' pl := ⟨A.st.same s', s' _ _ A.rd, s'.seq A.sq, fun b o n e => s' _ _ (A.ch b o n e)⟩
theorem At.go {H : Hp} {pl : Nat} (A : At K H0 x r dr a F s ns H pl) (fr : r ∉ F) (q : Nat) : At K H0 x r dr a F s ns (upd H r (.ins (He.ga K "Reader") dr (fReader a q))) q :=
  ⟨A.st.ap A.rd (apart_reader _ _ _ _) fr, upd_same, SqL.updI A.sq A.rd, fun b o n e => by rw [upd_ne n]; exact A.ch b o n e⟩
theorem At.none {H : Hp} {pl : Nat} {b : Addr} (A : At K H0 x r dr a F s ns H pl) (h : H b = none) : H0 b = none := by
  cases e : H0 b with
  | none => rfl
  | some o =>
    by_cases z : b = r
    · rw [z, A.rd] at h; cases h
    · rw [A.ch b o z e] at h; cases h
/-- number() -/
theorem rd_number (T : Tx K mg) {H : Hp} {pl : Nat} {z : Int} {Q : VK} (A : At K H0 x r dr a F s ns H pl) (fr : r ∉ F) (hz : ns[pl]? = some z) (k : ∀ H', At K H0 x r dr a F s ns H' (pl + 1) → Q (.int z) H') :
    ∃ (C b dx : Addr) (fs : List (Str × V)) (sp : Sp), MOk K mg 1 C "number" sp ∧ V.ref r = .ref b ∧ H b = some (.ins C dx fs) ∧ fs.lookup ("number" : Str) = none ∧ sp [V.ref r] H Q E0 :=
  ⟨_, r, dr, _, _, m_ok (c_Reader T) (m_Reader_number T) (ok_Reader_number T), rfl, A.rd, lk_noR (by decide +kernel) (by decide +kernel) a pl, r, dr, a, ns, pl, z, rfl, A.rd, A.sq, hz, k _ (A.go fr _)⟩
/-- run() -/
theorem rd_run (T : Tx K mg) {H : Hp} {pl q : Nat} {l : List Int} {Q : VK} (A : At K H0 x r dr a F s ns H pl) (fr : r ∉ F) (hl : runAt ns pl = some (l, q)) (k : ∀ p H', At K H0 x r dr a F s ns H' q → H' p = some (.lst (l.map V.int)) → l.length ≤ ns.length → Q (.ref p) H') :
    ∃ (C b dx : Addr) (fs : List (Str × V)) (sp : Sp), MOk K mg 2 C "run" sp ∧ V.ref r = .ref b ∧ H b = some (.ins C dx fs) ∧ fs.lookup ("run" : Str) = none ∧ sp [V.ref r] H Q E0 := by
  obtain ⟨n, h1, h2, rfl, rfl⟩ := runAt_ok hl
  refine ⟨_, r, dr, _, _, m_ok (c_Reader T) (m_Reader_run T) (ok_Reader_run T), rfl, A.rd, lk_noR (by decide +kernel) (by decide +kernel) a pl, r, dr, a, ns, pl, n, rfl, A.rd, A.sq, h1, h2, fun p hp => ?_⟩
  exact k p _ ((A.go fr _).same (same_new hp)) upd_same (by rw [List.length_take, List.length_drop]; omega)
/-- the answer is there -/
theorem At.done {H : Hp} {q : Nat} {Q : VK} {k : Vapatd.Call} (A : At K H0 x r dr a F s ns H q) (fr : r ∉ F)
    (fin : ∀ z H' F', (∀ b ∈ F', b ∈ F ∨ H0 b = .none) → (∀ b o, b ∉ F → b ≠ r → H0 b = some o → H' b = some o) → H' r = some (.ins (He.ga K "Reader") dr (fReader a q)) → StoreV K H' x F' (Vapatd.step s k).1 → IntsN H0 H' z (Vapatd.step s k).2 → Q z H') :
    ∀ z H' F', Chg F F' H H' → StoreV K H' x F' (Vapatd.step s k).1 → IntsN H H' z (Vapatd.step s k).2 → Q z H' := fun z H' F' c hS hz => by
  refine fin z H' F' (fun b hb => (c.1 b hb).imp id A.none) (fun b o n1 n2 e => c.2 b o n1 (A.ch b o n2 e)) (c.2 r _ fr A.rd) hS ?_
  obtain ⟨b, e, h1, h2⟩ := hz
  exact ⟨b, e, A.none h1, h2⟩
/-! ### one row, two rows -/
def OneK (c r : Int) (k : Vapatd.Call) : Prop := (c = 2 ∧ k = .shown r) ∨ (c = 3 ∧ k = .outcome r) ∨ (c = 10 ∧ k = .drop r)
def TwoK (c r q : Int) (k : Vapatd.Call) : Prop := (c = 4 ∧ k = .merge r q) ∨ (c = 5 ∧ k = .sides r q) ∨ (c = 6 ∧ k = .conflicts r q) ∨ (c = 7 ∧ k = .clean r q) ∨ (c = 9 ∧ k = .pull r q)
def spOne (K : PySem.W.Frag) : Sp := fun vs H Q _ => ∃ x F s c r k, vs = [.ref x, .int c, .int r] ∧ StoreV K H x F s ∧ OneK c r k ∧
  ∀ z H' F', Chg F F' H H' → StoreV K H' x F' (Vapatd.step s k).1 → IntsN H H' z (Vapatd.step s k).2 → Q z H'
def spTwoRows (K : PySem.W.Frag) : Sp := fun vs H Q _ => ∃ x F s c r q k, vs = [.ref x, .int c, .int r, .int q] ∧ StoreV K H x F s ∧ TwoK c r q k ∧
  ∀ z H' F', Chg F F' H H' → StoreV K H' x F' (Vapatd.step s k).1 → IntsN H H' z (Vapatd.step s k).2 → Q z H'
theorem look_out {H : Hp} {Q : VK} {k : Vapatd.Call} (hS : StoreV K H x F s) (e : (Vapatd.step s k).1 = s) (fin : ∀ z H' F', Chg F F' H H' → StoreV K H' x F' (Vapatd.step s k).1 → IntsN H H' z (Vapatd.step s k).2 → Q z H') :
    ∀ z H', Same H H' → IntsN H H' z (Vapatd.step s k).2 → Q z H' := fun z H' s' hz => fin z H' F (.of s') (by rw [e]; exact hS.same s') hz
theorem ok_answer_of_one_row (T : Tx K mg) : Ok K mg 11 ("answer_of_one_row", none) ["store", "call", "row"] (spOne K) := by
  refine mk_ok T e_answer_of_one_row rfl rfl sc_answer_of_one_row (fun _ _ _ _ _ _ us hl => match us, hl with | [_, _, _], _ => rfl) (fun vs H Q E h => ?_) (fun P w base f cdv A outer s H vs Q E hr h => ?_)
  · obtain ⟨x, F, s, c, r, k, rfl, _⟩ := h; rfl
  · obtain ⟨x, F, st, c, r, k, rfl, hS, hk, q⟩ := h
    refine ⟨_, (pss_cons (ps_if (pt_cmpR op_eq (pv 1) (pe_gint (i_SHOWN T)) (nomark _)) (pss_one (ps_ret (pe_mp (k := 10) (pv 0) (hr.mono (by decide)) (pa_cons (pv 2) pa_nil)))) pss_nil) (pss_cons (ps_if (pt_cmpR op_eq (pv 1) (pe_gint (i_OUTCOME T)) (nomark _)) (pss_one (ps_ret (pe_mp (k := 10) (pv 0) (hr.mono (by decide)) (pa_cons (pv 2) pa_nil)))) pss_nil) (pss_one (ps_ret (pe_mp (k := 10) (pv 0) (hr.mono (by decide)) (pa_cons (pv 2) pa_nil)))))), ?_⟩
    obtain ⟨dx, tv, ra, rs, h1, _⟩ := id hS
    have m1 := m_ok (c_Store T) (m_Store_shown T) (ok_Store_shown T)
    have m2 := m_ok (c_Store T) (m_Store_outcome T) (ok_Store_outcome T)
    have m3 := m_ok (c_Store T) (m_Store_drop T) (ok_Store_drop T)
    refine ⟨_, rfl, rfl, _, rfl, ?_⟩
    rw [eq_int]
    rcases hk with ⟨rfl, rfl⟩ | ⟨rfl, rfl⟩ | ⟨rfl, rfl⟩
    · refine ite2 (fun _ => ?_) (fun c => absurd (by decide) c)
      exact ⟨_, rfl, _, x, dx, _, _, m1, rfl, h1, lk_no (by decide +kernel) (by decide +kernel) tv ra, _, rfl, x, F, st, r, rfl, hS, look_out hS (onRow_fst fun _ _ _ => rfl) q⟩
    · refine ite2 (fun c => absurd c (by decide)) (fun _ => ?_)
      refine ⟨_, rfl, rfl, _, rfl, ?_⟩
      rw [eq_int]
      refine ite2 (fun _ => ?_) (fun c => absurd (by decide) c)
      exact ⟨_, rfl, _, x, dx, _, _, m2, rfl, h1, lk_no (by decide +kernel) (by decide +kernel) tv ra, _, rfl, x, F, st, r, rfl, hS, look_out hS (onRow_fst fun _ _ _ => rfl) q⟩
    · refine ite2 (fun c => absurd c (by decide)) (fun _ => ?_)
      refine ⟨_, rfl, rfl, _, rfl, ?_⟩
      rw [eq_int]
      refine ite2 (fun c => absurd c (by decide)) (fun _ => ?_)
      exact ⟨_, rfl, _, x, dx, _, _, m3, rfl, h1, lk_no (by decide +kernel) (by decide +kernel) tv ra, _, rfl, x, F, st, r, rfl, hS, q⟩
theorem ok_answer_of_two_rows (T : Tx K mg) : Ok K mg 13 ("answer_of_two_rows", none) ["store", "call", "row", "other"] (spTwoRows K) := by
  refine mk_ok T e_answer_of_two_rows rfl rfl sc_answer_of_two_rows (fun _ _ _ _ _ _ us hl => match us, hl with | [_, _, _, _], _ => rfl) (fun vs H Q E h => ?_) (fun P w base f cdv A outer s H vs Q E hr h => ?_)
  · obtain ⟨x, F, s, c, r, q, k, rfl, _⟩ := h; rfl
  · obtain ⟨x, F, st, c, r, r2, k, rfl, hS, hk, q⟩ := h
    refine ⟨_, (pss_cons (ps_if (pt_cmpR op_eq (pv 1) (pe_gint (i_MERGE T)) (nomark _)) (pss_one (ps_ret (pe_mp (k := 11) (pv 0) (hr.mono (by decide)) (pa_cons (pv 2) (pa_cons (pv 3) pa_nil))))) pss_nil) (pss_cons (ps_if (pt_cmpR op_eq (pv 1) (pe_gint (i_SIDES T)) (nomark _)) (pss_one (ps_ret (pe_mp (k := 11) (pv 0) (hr.mono (by decide)) (pa_cons (pv 2) (pa_cons (pv 3) pa_nil))))) pss_nil) (pss_cons (ps_if (pt_cmpR op_eq (pv 1) (pe_gint (i_CONFLICTS T)) (nomark _)) (pss_one (ps_ret (pe_mp (k := 12) (pv 0) (hr.mono (by decide)) (pa_cons (pv 2) (pa_cons (pv 3) pa_nil))))) pss_nil) (pss_cons (ps_if (pt_cmpR op_eq (pv 1) (pe_gint (i_CLEAN T)) (nomark _)) (pss_one (ps_ret (pe_mp (k := 12) (pv 0) (hr.mono (by decide)) (pa_cons (pv 2) (pa_cons (pv 3) pa_nil))))) pss_nil) (pss_one (ps_ret (pe_mp (k := 11) (pv 0) (hr.mono (by decide)) (pa_cons (pv 2) (pa_cons (pv 3) pa_nil))))))))), ?_⟩
    obtain ⟨dx, tv, ra, rs, h1, _⟩ := id hS
    have m1 := m_ok (c_Store T) (m_Store_merge T) (ok_Store_merge T)
    have m2 := m_ok (c_Store T) (m_Store_sides T) (ok_Store_sides T)
    have m3 := m_ok (c_Store T) (m_Store_conflicts T) (ok_Store_conflicts T)
    have m4 := m_ok (c_Store T) (m_Store_clean T) (ok_Store_clean T)
    have m5 := m_ok (c_Store T) (m_Store_pull T) (ok_Store_pull T)
    refine ⟨_, rfl, rfl, _, rfl, ?_⟩
    rw [eq_int]
    rcases hk with ⟨rfl, rfl⟩ | ⟨rfl, rfl⟩ | ⟨rfl, rfl⟩ | ⟨rfl, rfl⟩ | ⟨rfl, rfl⟩
    · refine ite2 (fun _ => ?_) (fun c => absurd (by decide) c)
      exact ⟨_, rfl, _, x, dx, _, _, m1, rfl, h1, lk_no (by decide +kernel) (by decide +kernel) tv ra, _, rfl, _, rfl, x, F, st, r, r2, rfl, hS, look_out hS (onRows_fst fun _ _ _ _ => rfl) q⟩
    · refine ite2 (fun c => absurd c (by decide)) (fun _ => ?_)
      refine ⟨_, rfl, rfl, _, rfl, ?_⟩
      rw [eq_int]
      refine ite2 (fun _ => ?_) (fun c => absurd (by decide) c)
      exact ⟨_, rfl, _, x, dx, _, _, m2, rfl, h1, lk_no (by decide +kernel) (by decide +kernel) tv ra, _, rfl, _, rfl, x, F, st, r, r2, rfl, hS, look_out hS (onRows_fst fun _ _ _ _ => rfl) q⟩
    · refine ite2 (fun c => absurd c (by decide)) (fun _ => ?_)
      refine ⟨_, rfl, rfl, _, rfl, ?_⟩
      rw [eq_int]
      refine ite2 (fun c => absurd c (by decide)) (fun _ => ?_)
      refine ⟨_, rfl, rfl, _, rfl, ?_⟩
      rw [eq_int]
      refine ite2 (fun _ => ?_) (fun c => absurd (by decide) c)
      exact ⟨_, rfl, _, x, dx, _, _, m3, rfl, h1, lk_no (by decide +kernel) (by decide +kernel) tv ra, _, rfl, _, rfl, x, F, st, r, r2, rfl, hS, look_out hS (onRows_fst fun _ _ _ _ => rfl) q⟩
    · refine ite2 (fun c => absurd c (by decide)) (fun _ => ?_)
      refine ⟨_, rfl, rfl, _, rfl, ?_⟩
      rw [eq_int]
      refine ite2 (fun c => absurd c (by decide)) (fun _ => ?_)
      refine ⟨_, rfl, rfl, _, rfl, ?_⟩
      rw [eq_int]
      refine ite2 (fun c => absurd c (by decide)) (fun _ => ?_)
      refine ⟨_, rfl, rfl, _, rfl, ?_⟩
      rw [eq_int]
      refine ite2 (fun _ => ?_) (fun c => absurd (by decide) c)
      exact ⟨_, rfl, _, x, dx, _, _, m4, rfl, h1, lk_no (by decide +kernel) (by decide +kernel) tv ra, _, rfl, _, rfl, x, F, st, r, r2, rfl, hS, look_out hS (onRows_fst fun _ _ _ _ => rfl) q⟩
    · refine ite2 (fun c => absurd c (by decide)) (fun _ => ?_)
      refine ⟨_, rfl, rfl, _, rfl, ?_⟩
      rw [eq_int]
      refine ite2 (fun c => absurd c (by decide)) (fun _ => ?_)
      refine ⟨_, rfl, rfl, _, rfl, ?_⟩
      rw [eq_int]
      refine ite2 (fun c => absurd c (by decide)) (fun _ => ?_)
      refine ⟨_, rfl, rfl, _, rfl, ?_⟩
      rw [eq_int]
      refine ite2 (fun c => absurd c (by decide)) (fun _ => ?_)
      exact ⟨_, rfl, _, x, dx, _, _, m5, rfl, h1, lk_no (by decide +kernel) (by decide +kernel) tv ra, _, rfl, _, rfl, x, F, st, r, r2, rfl, hS, q⟩
end
end Rw
end
section
set_option Elab.async false
set_option linter.all false
set_option maxRecDepth 100000
set_option maxHeartbeats 4000000
namespace Rw
open PySem PySem.Spec PyProof.Rows L2
section
variable {K : PySem.W.Frag} {mg : Str → Option Value}
theorem At.trans {H0 H1 H2 : Hp} {x r dr a : Addr} {F : List Addr} {s : Vapatd.State} {ns : List Int} {p q : Nat} (A : At K H0 x r dr a F s ns H1 p) (B : At K H1 x r dr a F s ns H2 q) : At K H0 x r dr a F s ns H2 q :=
  ⟨B.st, B.rd, B.sq, fun b o n e => B.ch b o n (A.ch b o n e)⟩
theorem At.self {H0 H1 : Hp} {x r dr a : Addr} {F : List Addr} {s : Vapatd.State} {ns : List Int} {p : Nat} (A : At K H0 x r dr a F s ns H1 p) : At K H1 x r dr a F s ns H1 p := ⟨A.st, A.rd, A.sq, fun _ _ _ e => e⟩
theorem At.obj {H0 H : Hp} {x r dr a : Addr} {F : List Addr} {s : Vapatd.State} {ns : List Int} {p : Nat} (A : At K H0 x r dr a F s ns H p) : ∃ dx tv ra, H x = some (.ins (He.ga K "Store") dx (fStore tv ra)) := by
  obtain ⟨dx, tv, ra, _, h, _⟩ := A.st
  exact ⟨dx, tv, ra, h⟩
theorem ok_answer_now (T : Tx K mg) : Ok K mg 14 ("answer_now", none) ["store", "reader"] (spNow K) := by
  refine mk_ok T e_answer_now rfl rfl sc_answer_now (fun _ _ _ _ _ _ us hl => match us, hl with | [_, _], _ => rfl) (fun vs H Q E h => ?_) (fun P w base f cdv A outer s H vs Q E hr h => ?_)
  · obtain ⟨x, r, dx, a, F, s, ns, pl, q, k, rfl, _⟩ := h; rfl
  · obtain ⟨x, r, dr, a, F, st, ns, pl, q, k, rfl, hS, hR, fr, key, hlen, hk, hfew, fin⟩ := h
    refine ⟨_, (pss_cons (ps_set (i := 2) sc_answer_now.nd rfl (Or.inl rfl) (pe_mp0 (k := 1) (pv 1) (hr.mono (by decide)))) (pss_cons (ps_if (pt_cmpR op_eq (pv 2) (pe_gint (i_TREE T)) (nomark _)) (pss_one (ps_ret (pe_mp (k := 10) (pv 0) (hr.mono (by decide)) (pa_cons (pe_mp0 (k := 2) (pv 1) (hr.mono (by decide))) pa_nil)))) pss_nil) (pss_cons (ps_if (pt_cmpR op_eq (pv 2) (pe_gint (i_STEP T)) (nomark _)) (pss_cons (ps_set (i := 3) sc_answer_now.nd rfl (Or.inl rfl) (pe_mp0 (k := 1) (pv 1) (hr.mono (by decide)))) (pss_one (ps_ret (pe_mp (k := 10) (pv 0) (hr.mono (by decide)) (pa_cons (pv 3) (pa_cons (pe_mp0 (k := 2) (pv 1) (hr.mono (by decide))) pa_nil)))))) pss_nil) (pss_cons (ps_if (pt_cmpR op_eq (pv 2) (pe_gint (i_ALL T)) (nomark _)) (pss_one (ps_ret (pe_mp (k := 10) (pv 0) (hr.mono (by decide)) (pa_cons (pe_mp0 (k := 2) (pv 1) (hr.mono (by decide))) pa_nil)))) pss_nil) (pss_cons (ps_if (pt_cmpR op_eq (pv 2) (pe_gint (i_TWO T)) (nomark _)) (pss_cons (ps_set (i := 4) sc_answer_now.nd rfl (Or.inl rfl) (pe_mp0 (k := 2) (pv 1) (hr.mono (by decide)))) (pss_one (ps_ret (pe_f (ok_two_merged T) (g_two_merged T) (hr.mono (by decide)) (pa_cons (pv 4) (pa_cons (pe_mp0 (k := 2) (pv 1) (hr.mono (by decide))) pa_nil)))))) pss_nil) (pss_cons (ps_if (pt_cmpR op_in_seq (pv 2) (pe_tup (pa_cons (pe_gint (i_SHOWN T)) (pa_cons (pe_gint (i_OUTCOME T)) (pa_cons (pe_gint (i_DROP T)) pa_nil)))) (by rfl)) (pss_one (ps_ret (pe_f (ok_answer_of_one_row T) (g_answer_of_one_row T) (hr.mono (by decide)) (pa_cons (pv 0) (pa_cons (pv 2) (pa_cons (pe_mp0 (k := 1) (pv 1) (hr.mono (by decide))) pa_nil)))))) pss_nil) (pss_cons (ps_if (pt_cmpR op_in_seq (pv 2) (pe_tup (pa_cons (pe_gint (i_MERGE T)) (pa_cons (pe_gint (i_SIDES T)) (pa_cons (pe_gint (i_CONFLICTS T)) (pa_cons (pe_gint (i_CLEAN T)) (pa_cons (pe_gint (i_PULL T)) pa_nil)))))) (by rfl)) (pss_cons (ps_set (i := 3) sc_answer_now.nd rfl (Or.inl rfl) (pe_mp0 (k := 1) (pv 1) (hr.mono (by decide)))) (pss_one (ps_ret (pe_f (ok_answer_of_two_rows T) (g_answer_of_two_rows T) (hr.mono (by decide)) (pa_cons (pv 0) (pa_cons (pv 2) (pa_cons (pv 3) (pa_cons (pe_mp0 (k := 1) (pv 1) (hr.mono (by decide))) pa_nil)))))))) pss_nil) (pss_one ps_never)))))))), ?_⟩
    have A : At K H x r dr a F st ns H pl := ⟨hS, hR, key.sq, fun _ _ _ e => e⟩
    have m1 := m_ok (c_Store T) (m_Store_plant T) (ok_Store_plant T)
    have m2 := m_ok (c_Store T) (m_Store_add_step T) (ok_Store_add_step T)
    have m3 := m_ok (c_Store T) (m_Store_merge_all T) (ok_Store_merge_all T)
    clear hS hR key
    cases k with
    | tree l =>
      obtain ⟨hz, hr⟩ := hk
      refine ⟨_, rfl, rd_number T A fr hz fun H1 A1 => ?_⟩
      clear A
      have A := A1
      clear A1
      refine ⟨_, rfl, rfl, _, rfl, ?_⟩
      rw [eq_int]
      refine ite2 (fun _ => ?_) (fun c => absurd (by decide) c)
      obtain ⟨dx, tv, ra, h1⟩ := A.obj
      exact ⟨_, rfl, _, x, dx, _, _, m1, rfl, h1, lk_no (by decide +kernel) (by decide +kernel) tv ra, _, rfl, rd_run T A fr hr fun p H2 A2 hp hle => ⟨x, F, st, p, l, rfl, A2.st, SqL.of hp, by omega, A2.done fr fin⟩⟩
    | step y l =>
      obtain ⟨hz, hy, hr⟩ := hk
      refine ⟨_, rfl, rd_number T A fr hz fun H1 A1 => ?_⟩
      clear A
      have A := A1
      clear A1
      refine ⟨_, rfl, rfl, _, rfl, ?_⟩
      rw [eq_int]
      refine ite2 (fun c => absurd c (by decide)) (fun _ => ?_)
      refine ⟨_, rfl, rfl, _, rfl, ?_⟩
      rw [eq_int]
      refine ite2 (fun _ => ?_) (fun c => absurd (by decide) c)
      refine ⟨_, rfl, rd_number T A fr hy fun H1 A1 => ?_⟩
      clear A
      have A := A1
      clear A1
      obtain ⟨dx, tv, ra, h1⟩ := A.obj
      exact ⟨_, rfl, _, x, dx, _, _, m2, rfl, h1, lk_no (by decide +kernel) (by decide +kernel) tv ra, _, rfl, _, rfl, rd_run T A fr hr fun p H2 A2 hp hle => ⟨x, F, st, y, p, l, rfl, A2.st, SqL.of hp, by omega, A2.done fr fin⟩⟩
    | all l =>
      obtain ⟨hz, hr⟩ := hk
      have h10 := hfew l rfl
      refine ⟨_, rfl, rd_number T A fr hz fun H1 A1 => ?_⟩
      clear A
      have A := A1
      clear A1
      refine ⟨_, rfl, rfl, _, rfl, ?_⟩
      rw [eq_int]
      refine ite2 (fun c => absurd c (by decide)) (fun _ => ?_)
      refine ⟨_, rfl, rfl, _, rfl, ?_⟩
      rw [eq_int]
      refine ite2 (fun c => absurd c (by decide)) (fun _ => ?_)
      refine ⟨_, rfl, rfl, _, rfl, ?_⟩
      rw [eq_int]
      refine ite2 (fun _ => ?_) (fun c => absurd (by decide) c)
      obtain ⟨dx, tv, ra, h1⟩ := A.obj
      exact ⟨_, rfl, _, x, dx, _, _, m3, rfl, h1, lk_no (by decide +kernel) (by decide +kernel) tv ra, _, rfl, rd_run T A fr hr fun p H2 A2 hp hle => ⟨x, F, st, p, l, rfl, A2.st, SqL.of hp, by omega, look_out A2.st (all_fst _ _) (A2.done fr fin)⟩⟩
    | two l m =>
      obtain ⟨hz, i, hr, hr2⟩ := hk
      refine ⟨_, rfl, rd_number T A fr hz fun H1 A1 => ?_⟩
      clear A
      have A := A1
      clear A1
      refine ⟨_, rfl, rfl, _, rfl, ?_⟩
      rw [eq_int]
      refine ite2 (fun c => absurd c (by decide)) (fun _ => ?_)
      refine ⟨_, rfl, rfl, _, rfl, ?_⟩
      rw [eq_int]
      refine ite2 (fun c => absurd c (by decide)) (fun _ => ?_)
      refine ⟨_, rfl, rfl, _, rfl, ?_⟩
      rw [eq_int]
      refine ite2 (fun c => absurd c (by decide)) (fun _ => ?_)
      refine ⟨_, rfl, rfl, _, rfl, ?_⟩
      rw [eq_int]
      refine ite2 (fun _ => ?_) (fun c => absurd (by decide) c)
      refine ⟨_, rfl, rd_run T A fr hr fun p H2 A2 hp hle => ?_⟩
      refine ⟨_, rfl, _, rfl, rd_run T A2.self fr hr2 fun p2 H3 B3 hp2 hle2 => ?_⟩
      have A3 := A2.trans B3
      have hp3 := B3.ch p _ (fun z => by rw [z, A2.rd] at hp; cases hp) hp
      refine ⟨p, p2, l, m, rfl, SqL.of hp3, SqL.of hp2, by omega, by omega, fun z H' s' hz => look_out (k := .two l m) A3.st (by rw [two_step]) (A3.done fr fin) z H' s' (by rw [two_step]; exact hz)⟩
    | shown y =>
      obtain ⟨hz, hy, rfl⟩ := hk
      refine ⟨_, rfl, rd_number T A fr hz fun H1 A1 => ?_⟩
      clear A
      have A := A1
      clear A1
      refine ⟨_, rfl, rfl, _, rfl, ?_⟩
      rw [eq_int]
      refine ite2 (fun c => absurd c (by decide)) (fun _ => ?_)
      refine ⟨_, rfl, rfl, _, rfl, ?_⟩
      rw [eq_int]
      refine ite2 (fun c => absurd c (by decide)) (fun _ => ?_)
      refine ⟨_, rfl, rfl, _, rfl, ?_⟩
      rw [eq_int]
      refine ite2 (fun c => absurd c (by decide)) (fun _ => ?_)
      refine ⟨_, rfl, rfl, _, rfl, ?_⟩
      rw [eq_int]
      refine ite2 (fun c => absurd c (by decide)) (fun _ => ?_)
      refine ⟨_, rfl, by show 3 ≤ sizeLine; decide, fun t4 ht4 => ⟨t4, _, rfl, .inr (SqT.of upd_same), rfl, rfl, _, rfl, ?_⟩⟩
      replace A := A.same (same_new (o := .tup [V.int 2, V.int 3, V.int 10]) ht4)
      refine ite2 (fun _ => ?_) (fun c => absurd rfl c)
      exact ⟨_, rfl, _, rfl, _, rfl, rd_number T A fr hy fun H2 A2 => ⟨x, F, st, _, y, _, rfl, A2.st, .inl ⟨rfl, rfl⟩, A2.done fr fin⟩⟩
    | outcome y =>
      obtain ⟨hz, hy, rfl⟩ := hk
      refine ⟨_, rfl, rd_number T A fr hz fun H1 A1 => ?_⟩
      clear A
      have A := A1
      clear A1
      refine ⟨_, rfl, rfl, _, rfl, ?_⟩
      rw [eq_int]
      refine ite2 (fun c => absurd c (by decide)) (fun _ => ?_)
      refine ⟨_, rfl, rfl, _, rfl, ?_⟩
      rw [eq_int]
      refine ite2 (fun c => absurd c (by decide)) (fun _ => ?_)
      refine ⟨_, rfl, rfl, _, rfl, ?_⟩
      rw [eq_int]
      refine ite2 (fun c => absurd c (by decide)) (fun _ => ?_)
      refine ⟨_, rfl, rfl, _, rfl, ?_⟩
      rw [eq_int]
      refine ite2 (fun c => absurd c (by decide)) (fun _ => ?_)
      refine ⟨_, rfl, by show 3 ≤ sizeLine; decide, fun t4 ht4 => ⟨t4, _, rfl, .inr (SqT.of upd_same), rfl, rfl, _, rfl, ?_⟩⟩
      replace A := A.same (same_new (o := .tup [V.int 2, V.int 3, V.int 10]) ht4)
      refine ite2 (fun _ => ?_) (fun c => absurd rfl c)
      exact ⟨_, rfl, _, rfl, _, rfl, rd_number T A fr hy fun H2 A2 => ⟨x, F, st, _, y, _, rfl, A2.st, .inr (.inl ⟨rfl, rfl⟩), A2.done fr fin⟩⟩
    | drop y =>
      obtain ⟨hz, hy, rfl⟩ := hk
      refine ⟨_, rfl, rd_number T A fr hz fun H1 A1 => ?_⟩
      clear A
      have A := A1
      clear A1
      refine ⟨_, rfl, rfl, _, rfl, ?_⟩
      rw [eq_int]
      refine ite2 (fun c => absurd c (by decide)) (fun _ => ?_)
      refine ⟨_, rfl, rfl, _, rfl, ?_⟩
      rw [eq_int]
      refine ite2 (fun c => absurd c (by decide)) (fun _ => ?_)
      refine ⟨_, rfl, rfl, _, rfl, ?_⟩
      rw [eq_int]
      refine ite2 (fun c => absurd c (by decide)) (fun _ => ?_)
      refine ⟨_, rfl, rfl, _, rfl, ?_⟩
      rw [eq_int]
      refine ite2 (fun c => absurd c (by decide)) (fun _ => ?_)
      refine ⟨_, rfl, by show 3 ≤ sizeLine; decide, fun t4 ht4 => ⟨t4, _, rfl, .inr (SqT.of upd_same), rfl, rfl, _, rfl, ?_⟩⟩
      replace A := A.same (same_new (o := .tup [V.int 2, V.int 3, V.int 10]) ht4)
      refine ite2 (fun _ => ?_) (fun c => absurd rfl c)
      exact ⟨_, rfl, _, rfl, _, rfl, rd_number T A fr hy fun H2 A2 => ⟨x, F, st, _, y, _, rfl, A2.st, .inr (.inr ⟨rfl, rfl⟩), A2.done fr fin⟩⟩
    | merge y z =>
      obtain ⟨hz, hy, hzz, rfl⟩ := hk
      refine ⟨_, rfl, rd_number T A fr hz fun H1 A1 => ?_⟩
      clear A
      have A := A1
      clear A1
      refine ⟨_, rfl, rfl, _, rfl, ?_⟩
      rw [eq_int]
      refine ite2 (fun c => absurd c (by decide)) (fun _ => ?_)
      refine ⟨_, rfl, rfl, _, rfl, ?_⟩
      rw [eq_int]
      refine ite2 (fun c => absurd c (by decide)) (fun _ => ?_)
      refine ⟨_, rfl, rfl, _, rfl, ?_⟩
      rw [eq_int]
      refine ite2 (fun c => absurd c (by decide)) (fun _ => ?_)
      refine ⟨_, rfl, rfl, _, rfl, ?_⟩
      rw [eq_int]
      refine ite2 (fun c => absurd c (by decide)) (fun _ => ?_)
      refine ⟨_, rfl, by show 3 ≤ sizeLine; decide, fun t4 ht4 => ⟨t4, _, rfl, .inr (SqT.of upd_same), rfl, rfl, _, rfl, ?_⟩⟩
      replace A := A.same (same_new (o := .tup [V.int 2, V.int 3, V.int 10]) ht4)
      refine ite2 (fun c => Bool.noConfusion (show false = true from c)) (fun _ => ?_)
      refine ⟨_, rfl, by show 5 ≤ sizeLine; decide, fun t5 ht5 => ⟨t5, _, rfl, .inr (SqT.of upd_same), rfl, rfl, _, rfl, ?_⟩⟩
      replace A := A.same (same_new (o := .tup [V.int 4, V.int 5, V.int 6, V.int 7, V.int 9]) ht5)
      refine ite2 (fun _ => ?_) (fun c => absurd rfl c)
      refine ⟨_, rfl, rd_number T A fr hy fun H1 A1 => ?_⟩
      clear A
      have A := A1
      clear A1
      exact ⟨_, rfl, _, rfl, _, rfl, _, rfl, rd_number T A fr hzz fun H2 A2 => ⟨x, F, st, _, y, z, _, rfl, A2.st, .inl ⟨rfl, rfl⟩, A2.done fr fin⟩⟩
    | sides y z =>
      obtain ⟨hz, hy, hzz, rfl⟩ := hk
      refine ⟨_, rfl, rd_number T A fr hz fun H1 A1 => ?_⟩
      clear A
      have A := A1
      clear A1
      refine ⟨_, rfl, rfl, _, rfl, ?_⟩
      rw [eq_int]
      refine ite2 (fun c => absurd c (by decide)) (fun _ => ?_)
      refine ⟨_, rfl, rfl, _, rfl, ?_⟩
      rw [eq_int]
      refine ite2 (fun c => absurd c (by decide)) (fun _ => ?_)
      refine ⟨_, rfl, rfl, _, rfl, ?_⟩
      rw [eq_int]
      refine ite2 (fun c => absurd c (by decide)) (fun _ => ?_)
      refine ⟨_, rfl, rfl, _, rfl, ?_⟩
      rw [eq_int]
      refine ite2 (fun c => absurd c (by decide)) (fun _ => ?_)
      refine ⟨_, rfl, by show 3 ≤ sizeLine; decide, fun t4 ht4 => ⟨t4, _, rfl, .inr (SqT.of upd_same), rfl, rfl, _, rfl, ?_⟩⟩
      replace A := A.same (same_new (o := .tup [V.int 2, V.int 3, V.int 10]) ht4)
      refine ite2 (fun c => Bool.noConfusion (show false = true from c)) (fun _ => ?_)
      refine ⟨_, rfl, by show 5 ≤ sizeLine; decide, fun t5 ht5 => ⟨t5, _, rfl, .inr (SqT.of upd_same), rfl, rfl, _, rfl, ?_⟩⟩
      replace A := A.same (same_new (o := .tup [V.int 4, V.int 5, V.int 6, V.int 7, V.int 9]) ht5)
      refine ite2 (fun _ => ?_) (fun c => absurd rfl c)
      refine ⟨_, rfl, rd_number T A fr hy fun H1 A1 => ?_⟩
      clear A
      have A := A1
      clear A1
      exact ⟨_, rfl, _, rfl, _, rfl, _, rfl, rd_number T A fr hzz fun H2 A2 => ⟨x, F, st, _, y, z, _, rfl, A2.st, .inr (.inl ⟨rfl, rfl⟩), A2.done fr fin⟩⟩
    | conflicts y z =>
      obtain ⟨hz, hy, hzz, rfl⟩ := hk
      refine ⟨_, rfl, rd_number T A fr hz fun H1 A1 => ?_⟩
      clear A
      have A := A1
      clear A1
      refine ⟨_, rfl, rfl, _, rfl, ?_⟩
      rw [eq_int]
      refine ite2 (fun c => absurd c (by decide)) (fun _ => ?_)
      refine ⟨_, rfl, rfl, _, rfl, ?_⟩
      rw [eq_int]
      refine ite2 (fun c => absurd c (by decide)) (fun _ => ?_)
      refine ⟨_, rfl, rfl, _, rfl, ?_⟩
      rw [eq_int]
      refine ite2 (fun c => absurd c (by decide)) (fun _ => ?_)
      refine ⟨_, rfl, rfl, _, rfl, ?_⟩
      rw [eq_int]
      refine ite2 (fun c => absurd c (by decide)) (fun _ => ?_)
      refine ⟨_, rfl, by show 3 ≤ sizeLine; decide, fun t4 ht4 => ⟨t4, _, rfl, .inr (SqT.of upd_same), rfl, rfl, _, rfl, ?_⟩⟩
      replace A := A.same (same_new (o := .tup [V.int 2, V.int 3, V.int 10]) ht4)
      refine ite2 (fun c => Bool.noConfusion (show false = true from c)) (fun _ => ?_)
      refine ⟨_, rfl, by show 5 ≤ sizeLine; decide, fun t5 ht5 => ⟨t5, _, rfl, .inr (SqT.of upd_same), rfl, rfl, _, rfl, ?_⟩⟩
      replace A := A.same (same_new (o := .tup [V.int 4, V.int 5, V.int 6, V.int 7, V.int 9]) ht5)
      refine ite2 (fun _ => ?_) (fun c => absurd rfl c)
      refine ⟨_, rfl, rd_number T A fr hy fun H1 A1 => ?_⟩
      clear A
      have A := A1
      clear A1
      exact ⟨_, rfl, _, rfl, _, rfl, _, rfl, rd_number T A fr hzz fun H2 A2 => ⟨x, F, st, _, y, z, _, rfl, A2.st, .inr (.inr (.inl ⟨rfl, rfl⟩)), A2.done fr fin⟩⟩
    | clean y z =>
      obtain ⟨hz, hy, hzz, rfl⟩ := hk
      refine ⟨_, rfl, rd_number T A fr hz fun H1 A1 => ?_⟩
      clear A
      have A := A1
      clear A1
      refine ⟨_, rfl, rfl, _, rfl, ?_⟩
      rw [eq_int]
      refine ite2 (fun c => absurd c (by decide)) (fun _ => ?_)
      refine ⟨_, rfl, rfl, _, rfl, ?_⟩
      rw [eq_int]
      refine ite2 (fun c => absurd c (by decide)) (fun _ => ?_)
      refine ⟨_, rfl, rfl, _, rfl, ?_⟩
      rw [eq_int]
      refine ite2 (fun c => absurd c (by decide)) (fun _ => ?_)
      refine ⟨_, rfl, rfl, _, rfl, ?_⟩
      rw [eq_int]
      refine ite2 (fun c => absurd c (by decide)) (fun _ => ?_)
      refine ⟨_, rfl, by show 3 ≤ sizeLine; decide, fun t4 ht4 => ⟨t4, _, rfl, .inr (SqT.of upd_same), rfl, rfl, _, rfl, ?_⟩⟩
      replace A := A.same (same_new (o := .tup [V.int 2, V.int 3, V.int 10]) ht4)
      refine ite2 (fun c => Bool.noConfusion (show false = true from c)) (fun _ => ?_)
      refine ⟨_, rfl, by show 5 ≤ sizeLine; decide, fun t5 ht5 => ⟨t5, _, rfl, .inr (SqT.of upd_same), rfl, rfl, _, rfl, ?_⟩⟩
      replace A := A.same (same_new (o := .tup [V.int 4, V.int 5, V.int 6, V.int 7, V.int 9]) ht5)
      refine ite2 (fun _ => ?_) (fun c => absurd rfl c)
      refine ⟨_, rfl, rd_number T A fr hy fun H1 A1 => ?_⟩
      clear A
      have A := A1
      clear A1
      exact ⟨_, rfl, _, rfl, _, rfl, _, rfl, rd_number T A fr hzz fun H2 A2 => ⟨x, F, st, _, y, z, _, rfl, A2.st, .inr (.inr (.inr (.inl ⟨rfl, rfl⟩))), A2.done fr fin⟩⟩
    | pull y z =>
      obtain ⟨hz, hy, hzz, rfl⟩ := hk
      refine ⟨_, rfl, rd_number T A fr hz fun H1 A1 => ?_⟩
      clear A
      have A := A1
      clear A1
      refine ⟨_, rfl, rfl, _, rfl, ?_⟩
      rw [eq_int]
      refine ite2 (fun c => absurd c (by decide)) (fun _ => ?_)
      refine ⟨_, rfl, rfl, _, rfl, ?_⟩
      rw [eq_int]
      refine ite2 (fun c => absurd c (by decide)) (fun _ => ?_)
      refine ⟨_, rfl, rfl, _, rfl, ?_⟩
      rw [eq_int]
      refine ite2 (fun c => absurd c (by decide)) (fun _ => ?_)
      refine ⟨_, rfl, rfl, _, rfl, ?_⟩
      rw [eq_int]
      refine ite2 (fun c => absurd c (by decide)) (fun _ => ?_)
      refine ⟨_, rfl, by show 3 ≤ sizeLine; decide, fun t4 ht4 => ⟨t4, _, rfl, .inr (SqT.of upd_same), rfl, rfl, _, rfl, ?_⟩⟩
      replace A := A.same (same_new (o := .tup [V.int 2, V.int 3, V.int 10]) ht4)
      refine ite2 (fun c => Bool.noConfusion (show false = true from c)) (fun _ => ?_)
      refine ⟨_, rfl, by show 5 ≤ sizeLine; decide, fun t5 ht5 => ⟨t5, _, rfl, .inr (SqT.of upd_same), rfl, rfl, _, rfl, ?_⟩⟩
      replace A := A.same (same_new (o := .tup [V.int 4, V.int 5, V.int 6, V.int 7, V.int 9]) ht5)
      refine ite2 (fun _ => ?_) (fun c => absurd rfl c)
      refine ⟨_, rfl, rd_number T A fr hy fun H1 A1 => ?_⟩
      clear A
      have A := A1
      clear A1
      exact ⟨_, rfl, _, rfl, _, rfl, _, rfl, rd_number T A fr hzz fun H2 A2 => ⟨x, F, st, _, y, z, _, rfl, A2.st, .inr (.inr (.inr (.inr (⟨rfl, rfl⟩)))), A2.done fr fin⟩⟩
end
end Rw
end
section
set_option Elab.async false
set_option linter.all false
set_option maxRecDepth 100000
set_option maxHeartbeats 8000000
set_option pp.maxSteps 3000
namespace Rw
open PySem PySem.Spec PyProof.Rows L2
open PySem.W (Codec)
def last : Nat := RR.prog.main.body.length - 1
theorem holds_of (oA : ∀ {K : PySem.W.Frag} {mg : Str → Option Value}, Tx K mg → OkA K mg 15 ("answers", none) ["calls"] (spAnswers K)) : RR.Holds := by
  refine HandSHeadRun.head_spec (r := RR) (q := qv) (H := hk) (ob := ob) (M := 6500) (loose := loose) (d := HandSHeadRun.topDef RR.prog last) (kwd := []) ob_eq (by kernel_rfl) (fun s => by kernel_rfl) run (by kernel_rfl) (by kernel_rfl) (by kernel_rfl) ?hsh (by kernel_rfl) (by kernel_rfl) ?hb ?hw ?call
  case hsh => exact fun as h => PySem.W.os_shapes as h
  case hb => exact ⟨rfl, rfl, rfl, rfl, rfl, by decide +kernel⟩
  case hw => exact ⟨[.list [.int 2, .int 0]], by decide +kernel, by decide +kernel⟩
  case call =>
    intro w s₀ s₁ mg mb G Y fa o pm cd doc dV kV ho hd hcd hD hmg hg args vals as hpre hlay hrd hwl hlo
    obtain ⟨a, e1, e2⟩ := PySem.W.os_pre_some hpre
    obtain ⟨e3, hwi⟩ := Codec.encAll_of_decAll RR.args args a e1
    subst e3
    obtain ⟨K, KX, sd, sm⟩ := Y
    have T : Tx K mg := ⟨⟨_, KX, G.T.g⟩, sd, sm⟩
    obtain ⟨fd, hb, hF⟩ := oA T
    have hfa : fa = He.ga K "answers" := by
      have h1 := g_answers T
      have h2 : mg "answers" = some (.ref fa) := hmg
      rw [h1] at h2
      injection h2 with h2
      injection h2 with h2
      exact h2.symm
    subst hfa
    apply PySem.W.enter_call
    refine codeAny_mono (spec_call (R := []) (cl := classAt s₀.heap) (d0 := RR.ret.enc (Codec.app RR.args RR.f a)) (ps := ["calls"]) (sp := spAnswers K) (k := 15) (CX := CX0) KX G.T.g G.T.b G.T.builtins G.T.nolimit hg hwl (pl_encAll _ _) (layable_weight hlay)
      ⟨rfl, by decide, by decide⟩ (fun base _ _ => hF RR.prog w base) hb rfl (fun H xs hO hS => ?sp) (fun _ _ _ z => z)) ?post
    case sp =>
      cases hS with
      | cons h1 h2 =>
        cases h2
        cases h1 with
        | lst hs ha =>
          have e := L2.ints_dw a.1 _ ha
          subst e
          have q : ((Codec.inLen 0 6200 a.1 && a.1.all (Codec.inInt (-1000000000000000000) 1000000000000000000)) && true) = true := hwi
          rw [Bool.and_eq_true, Bool.and_eq_true] at q
          have hn : a.1.length ≤ 6200 := (Codec.inNat_iff.mp q.1.1).2
          exact ⟨_, a.1, rfl, hs, Nat.lt_of_le_of_lt hn (by decide), e2, fun z H' _ ⟨b, e, _, hb⟩ => by
            subst e
            exact .lst (L2.SqL.of hb) (L2.dw_ints _)⟩
    case post =>
      rintro r' s' ⟨u, as', rfl, h1, h2, h3, h4⟩
      refine ⟨.inl ⟨u, _, as', rfl, fun _ => rfl, h1, ?_, fun z => nomatch z⟩, h2, h3, h4⟩
      exact (PySem.W.OpenSpec.post_iff (r := RR) (by kernel_rfl) hwi _ _).mpr rfl
end Rw
end
theorem PySem.Challenge.cw_rowsmerged_s01_answers_holds : PySem.Challenge.rw_rowsmerged_s01_answers.Holds :=
  Rw.holds_of fun T => Rw.ok_answers_of T (Rw.ok_answer_now T)
