import PyProof.Rows.All
import Wide.All
import OpenK.AllK
import Wide.FinOn
import PyFlatLaws
import Open.SpecLaws
import KE.OsGo
import KE.KMinKey
import HandS.ForSpec
import HandS.ForMost
import HandS.Nested
import HandS.Lambda
import PyProof.DictWalks
import HandS.EndTab
import KE.KDictList
import HandS.Conv
import KE.SortKeyHeap
import HandS.ExcValue
import HandS.List
import HandS.Walk
import HandS.SetFor
import HandS.Head0
import HandS.Head1
import HandS.Head2
import HandS.Head3
import HandS.Head4
import HandS.HeadHook1
import HandS.HeadHook2
import HandS.HeadHook3
import HandS.HeadHook4
import PySem.Challenge.RW_goalfields_s01_answers
set_option Elab.async false
/-! The mathematics of how far: whatever meets the one equation at every place (a wall: none; a goal: 0; else the least over the places beside it) is the specification's field; and reckoning outward from the goals, the least far first, meets it. Places by their spot: row * wide + column. -/
namespace Gf
open Ge07
def ix (w : Nat) (p : Place) : Nat := p.2 * w + p.1
def pl (w : Nat) (i : Nat) : Place := (i % w, i / w)
theorem ix_pl (w i : Nat) : ix w (pl w i) = i := by
  show i / w * w + i % w = i
  have := Nat.div_add_mod i w
  rw [Nat.mul_comm] at this
  exact this
theorem pl_ix {w : Nat} {p : Place} (h : p.1 < w) : pl w (ix w p) = p := by
  have hw : 0 < w := by omega
  show ((p.2 * w + p.1) % w, (p.2 * w + p.1) / w) = p
  rw [Nat.mul_comm, Nat.mul_add_mod, Nat.mod_eq_of_lt h, Nat.mul_add_div hw, Nat.div_eq_of_lt h, Nat.add_zero]
theorem ix_lt {w h : Nat} {p : Place} (h1 : p.1 < w) (h2 : p.2 < h) : ix w p < w * h := by
  show p.2 * w + p.1 < w * h
  have : (p.2 + 1) * w ≤ h * w := Nat.mul_le_mul_right w h2
  rw [Nat.succ_mul] at this
  rw [Nat.mul_comm w h]
  omega
theorem div_lt {w h i : Nat} (hi : i < w * h) : i / w < h := by
  rw [Nat.mul_comm] at hi
  exact Nat.div_lt_of_lt_mul (by rw [Nat.mul_comm]; exact hi)
theorem wpos {w h i : Nat} (hi : i < w * h) : 0 < w := by
  cases w with
  | zero => rw [Nat.zero_mul] at hi; omega
  | succ n => omega
theorem inside_iff {m : Map} {p : Place} : inside m p = true ↔ p.1 < m.w ∧ p.2 < m.h := by
  unfold inside
  rw [Bool.and_eq_true, decide_eq_true_iff, decide_eq_true_iff]
theorem pl_inside {m : Map} {i : Nat} (h : i < m.w * m.h) : inside m (pl m.w i) = true :=
  inside_iff.mpr ⟨Nat.mod_lt _ (wpos h), div_lt h⟩
/-! ### beside -/
def bes (w h i : Nat) : List Nat :=
  ((if i % w + 1 < w then [i + 1] else []) ++ (if i / w + 1 < h then [i + w] else [])) ++
    ((if 0 < i % w then [i - 1] else []) ++ (if 0 < i / w then [i - w] else []))
theorem mem_opt {c : Prop} [Decidable c] {j k : Nat} : j ∈ (if c then [k] else []) ↔ c ∧ j = k := by
  by_cases h : c
  · rw [if_pos h]; simp [h]
  · rw [if_neg h]; simp [h]
theorem mem_bes {w h i j : Nat} : j ∈ bes w h i ↔ (i % w + 1 < w ∧ j = i + 1) ∨ (i / w + 1 < h ∧ j = i + w) ∨ (0 < i % w ∧ j = i - 1) ∨ (0 < i / w ∧ j = i - w) := by
  unfold bes
  rw [List.mem_append, List.mem_append, List.mem_append, mem_opt, mem_opt, mem_opt, mem_opt]
  constructor
  · rintro ((h | h) | (h | h))
    · exact .inl h
    · exact .inr (.inl h)
    · exact .inr (.inr (.inl h))
    · exact .inr (.inr (.inr h))
  · rintro (h | h | h | h)
    · exact .inl (.inl h)
    · exact .inl (.inr h)
    · exact .inr (.inl h)
    · exact .inr (.inr h)
theorem split_ix (w i : Nat) : i = i / w * w + i % w := (ix_pl w i).symm
theorem pl_of {w a b i : Nat} (h : a < w) (e : i = b * w + a) : pl w i = (a, b) := by
  subst e
  exact pl_ix (p := (a, b)) h
theorem pl_right {w i : Nat} (h : i % w + 1 < w) : pl w (i + 1) = (i % w + 1, i / w) :=
  pl_of h (by have := split_ix w i; omega)
theorem pl_left {w i : Nat} (hw : 0 < w) (h : 0 < i % w) : pl w (i - 1) = (i % w - 1, i / w) :=
  pl_of (by have := Nat.mod_lt i hw; omega) (by have := split_ix w i; omega)
theorem pl_down {w i : Nat} (hw : 0 < w) : pl w (i + w) = (i % w, i / w + 1) :=
  pl_of (Nat.mod_lt i hw) (by have := split_ix w i; rw [Nat.succ_mul]; omega)
theorem pl_up {w i : Nat} (hw : 0 < w) (h : 0 < i / w) : pl w (i - w) = (i % w, i / w - 1) :=
  pl_of (Nat.mod_lt i hw) (by
    have := split_ix w i
    have e : i / w = (i / w - 1) + 1 := by omega
    rw [e, Nat.succ_mul] at this
    omega)
theorem up_le {w i : Nat} (h : 0 < i / w) : w ≤ i := by
  have := split_ix w i
  have e : i / w = (i / w - 1) + 1 := by omega
  rw [e, Nat.succ_mul] at this
  omega
theorem map_opt {α β : Type} {c : Prop} [Decidable c] {f : α → β} {k : α} : (if c then [k] else []).map f = if c then [f k] else [] := by
  by_cases h : c
  · rw [if_pos h, if_pos h]; rfl
  · rw [if_neg h, if_neg h]; rfl
theorem if_congr' {α : Type} {c : Prop} [Decidable c] {a b : α} (h : c → a = b) : (if c then [a] else []) = if c then [b] else [] := by
  by_cases hc : c
  · rw [if_pos hc, if_pos hc, h hc]
  · rw [if_neg hc, if_neg hc]
theorem beside_pl {m : Map} {i : Nat} (hi : i < m.w * m.h) : beside m (pl m.w i) = (bes m.w m.h i).map (pl m.w) := by
  have hw := wpos hi
  unfold bes
  rw [List.map_append, List.map_append, List.map_append, map_opt, map_opt, map_opt, map_opt]
  show ((if i % m.w + 1 < m.w then [(i % m.w + 1, i / m.w)] else []) ++ (if i / m.w + 1 < m.h then [(i % m.w, i / m.w + 1)] else [])) ++ ((if 0 < i % m.w then [(i % m.w - 1, i / m.w)] else []) ++ (if 0 < i / m.w then [(i % m.w, i / m.w - 1)] else [])) = _
  rw [if_congr' (fun c => (pl_right c).symm), if_congr' (fun _ => (pl_down hw).symm), if_congr' (fun c => (pl_left hw c).symm), if_congr' (fun c => (pl_up hw c).symm)]
theorem bes_lt {w h i j : Nat} (hi : i < w * h) (hj : j ∈ bes w h i) : j < w * h := by
  have hw := wpos hi
  have hd := div_lt hi
  rcases mem_bes.mp hj with ⟨c, e⟩ | ⟨c, e⟩ | ⟨c, e⟩ | ⟨c, e⟩
  · have := ix_lt (w := w) (h := h) (p := (i % w + 1, i / w)) c hd
    have s := split_ix w i
    unfold ix at this
    dsimp only at this
    omega
  · have := ix_lt (w := w) (h := h) (p := (i % w, i / w + 1)) (Nat.mod_lt i hw) c
    have s := split_ix w i
    unfold ix at this
    dsimp only at this
    rw [Nat.succ_mul] at this
    omega
  · omega
  · omega
theorem bes_symm {w h i j : Nat} (hi : i < w * h) (hj : j ∈ bes w h i) : i ∈ bes w h j := by
  have hw := wpos hi
  have hd := div_lt hi
  rcases mem_bes.mp hj with ⟨c, e⟩ | ⟨c, e⟩ | ⟨c, e⟩ | ⟨c, e⟩
  · have p := pl_right c
    rw [← e] at p
    have p1 : j % w = i % w + 1 := congrArg (·.1) p
    exact mem_bes.mpr (.inr (.inr (.inl ⟨by omega, by omega⟩)))
  · have p := pl_down (i := i) hw
    rw [← e] at p
    have p1 : j / w = i / w + 1 := congrArg (·.2) p
    exact mem_bes.mpr (.inr (.inr (.inr ⟨by rw [p1]; exact Nat.succ_pos _, by omega⟩)))
  · have p := pl_left hw c
    rw [← e] at p
    have p1 : j % w = i % w - 1 := congrArg (·.1) p
    have : i % w < w := Nat.mod_lt i hw
    have s := split_ix w i
    exact mem_bes.mpr (.inl ⟨by omega, by omega⟩)
  · have p := pl_up hw c
    rw [← e] at p
    have p1 : j / w = i / w - 1 := congrArg (·.2) p
    have := up_le c
    exact mem_bes.mpr (.inr (.inl ⟨by omega, by omega⟩))
theorem bes_ne {w h i j : Nat} (hi : i < w * h) (hj : j ∈ bes w h i) : j ≠ i := by
  have hw := wpos hi
  rcases mem_bes.mp hj with ⟨c, e⟩ | ⟨c, e⟩ | ⟨c, e⟩ | ⟨c, e⟩
  · omega
  · omega
  · have : i % w ≤ i := Nat.mod_le _ _
    omega
  · have := up_le c
    omega
/-! ### places, row by row -/
theorem range_add (a b : Nat) : List.range (a + b) = List.range a ++ (List.range b).map (a + ·) := List.range_add
theorem rows_eq {w : Nat} (hw : 0 < w) : ∀ h : Nat, ((List.range h).flatMap fun y => (List.range w).map fun x => (x, y)) = (List.range (w * h)).map (pl w)
  | 0 => rfl
  | h + 1 => by
    rw [List.range_succ, List.flatMap_append, rows_eq hw h, Nat.mul_succ, range_add, List.map_append]
    congr 1
    rw [List.flatMap_cons, List.flatMap_nil, List.append_nil, List.map_map]
    apply List.map_congr_left
    intro x hx
    have hx' : x < w := List.mem_range.mp hx
    exact (pl_of hx' (by rw [Nat.mul_comm])).symm
theorem places_eq {m : Map} (hw : 0 < m.w) : places m = (List.range (m.w * m.h)).map (pl m.w) := rows_eq hw m.h
/-! ### by spot -/
def ci (m : Map) (i : Nat) : Nat := m.costs.getD i 0
def gi (m : Map) (i : Nat) : Bool := m.goals.contains (pl m.w i)
theorem costAt_pl {m : Map} {i : Nat} (h : i < m.w * m.h) : costAt m (pl m.w i) = ci m i := by
  unfold costAt
  rw [if_pos (pl_inside h)]
  show m.costs.getD (ix m.w (pl m.w i)) 0 = _
  rw [ix_pl]
  rfl
theorem open_pl {m : Map} {i : Nat} (h : i < m.w * m.h) : open_ m (pl m.w i) = decide (0 < ci m i) := by
  unfold open_
  rw [costAt_pl h]
theorem at_pl {m : Map} {F : Field} {i : Nat} (h : i < m.w * m.h) : at_ m F (pl m.w i) = F.getD i none := by
  unfold at_
  rw [if_pos (pl_inside h)]
  show F.getD (ix m.w (pl m.w i)) none = _
  rw [ix_pl]
/-! ### least -/
def mn : Option Nat → Option Nat → Option Nat := fun a b => match a, b with
  | none, x => x
  | x, none => x
  | some x, some y => some (min x y)
theorem least_eq (l : List (Option Nat)) : least l = l.foldl mn none := rfl
theorem mn_some {a b : Option Nat} {d : Nat} (h : mn a b = some d) : (a = some d ∨ b = some d) ∧ (∀ e, a = some e → d ≤ e) ∧ (∀ e, b = some e → d ≤ e) := by
  cases a with
  | none =>
    have h' : b = some d := h
    subst h'
    exact ⟨.inr rfl, fun e q => (by cases q), fun e q => (by cases q; exact Nat.le_refl _)⟩
  | some x =>
    cases b with
    | none =>
      have h' : some x = some d := h
      cases h'
      exact ⟨.inl rfl, fun e q => (by cases q; exact Nat.le_refl _), fun e q => (by cases q)⟩
    | some y =>
      have h' : some (min x y) = some d := h
      cases h'
      refine ⟨?_, fun e q => (by cases q; exact Nat.min_le_left _ _), fun e q => (by cases q; exact Nat.min_le_right _ _)⟩
      by_cases c : x ≤ y
      · exact .inl (by rw [Nat.min_eq_left c])
      · exact .inr (by rw [Nat.min_eq_right (by omega)])
theorem mn_none {a b : Option Nat} (h : mn a b = none) : a = none ∧ b = none := by
  cases a <;> cases b <;> first | exact ⟨rfl, rfl⟩ | cases h
theorem fold_some : ∀ (l : List (Option Nat)) (a : Option Nat) {d : Nat}, l.foldl mn a = some d → (a = some d ∨ some d ∈ l) ∧ (∀ e, a = some e → d ≤ e) ∧ ∀ e, some e ∈ l → d ≤ e
  | [], a, d, h => ⟨.inl h, fun e q => (by rw [show a = some d from h] at q; cases q; exact Nat.le_refl _), fun e q => (by cases q)⟩
  | b :: l, a, d, h => by
    obtain ⟨h1, h2, h3⟩ := fold_some l (mn a b) h
    have key : ∀ x, mn a b = some x → d ≤ x := h2
    refine ⟨?_, fun e q => ?_, fun e q => ?_⟩
    · rcases h1 with h1 | h1
      · rcases (mn_some h1).1 with c | c
        · exact .inl c
        · exact .inr (by rw [← c]; exact List.mem_cons_self)
      · exact .inr (List.mem_cons_of_mem _ h1)
    · cases c : mn a b with
      | none => rw [(mn_none c).1] at q; cases q
      | some x => exact Nat.le_trans (key x c) ((mn_some c).2.1 e q)
    · rcases List.mem_cons.mp q with q | q
      · cases c : mn a b with
        | none => rw [(mn_none c).2] at q; cases q
        | some x => exact Nat.le_trans (key x c) ((mn_some c).2.2 e q.symm)
      · exact h3 e q
theorem fold_none : ∀ (l : List (Option Nat)) (a : Option Nat), l.foldl mn a = none → a = none ∧ ∀ b ∈ l, b = none
  | [], a, h => ⟨h, fun b q => by cases q⟩
  | b :: l, a, h => by
    obtain ⟨h1, h2⟩ := fold_none l (mn a b) h
    refine ⟨(mn_none h1).1, fun x q => ?_⟩
    rcases List.mem_cons.mp q with q | q
    · rw [q]; exact (mn_none h1).2
    · exact h2 x q
theorem least_some {l : List (Option Nat)} {d : Nat} (h : least l = some d) : some d ∈ l ∧ ∀ e, some e ∈ l → d ≤ e := by
  obtain ⟨h1, _, h3⟩ := fold_some l none h
  rcases h1 with h1 | h1
  · cases h1
  · exact ⟨h1, h3⟩
theorem least_none {l : List (Option Nat)} (h : least l = none) : ∀ b ∈ l, b = none := (fold_none l none h).2
theorem least_of {l : List (Option Nat)} {d : Nat} (h : some d ∈ l) (h2 : ∀ e, some e ∈ l → d ≤ e) : least l = some d := by
  cases c : least l with
  | none => exact absurd (least_none c _ h) (by simp)
  | some x =>
    obtain ⟨a, b⟩ := least_some c
    have := h2 x a
    have := b d h
    congr 1
    omega
theorem least_le {l : List (Option Nat)} {d : Nat} (h : some d ∈ l) : ∃ e, least l = some e ∧ e ≤ d := by
  cases c : least l with
  | none => exact absurd (least_none c _ h) (by simp)
  | some x => exact ⟨x, rfl, (least_some c).2 d h⟩
theorem least_all_none {l : List (Option Nat)} (h : ∀ b ∈ l, b = none) : least l = none := by
  cases c : least l with
  | none => rfl
  | some x => exact absurd (h _ (least_some c).1) (by simp)
/-! ### the equation -/
def eqAt (m : Map) (D : Nat → Option Nat) (i : Nat) : Option Nat :=
  if ci m i = 0 then none else if gi m i = true then some 0 else least ((bes m.w m.h i).map fun j => (D j).map fun d => d + ci m j)
def Fix (m : Map) (D : Nat → Option Nat) : Prop := ∀ i, i < m.w * m.h → D i = eqAt m D i
theorem eqAt_congr {m : Map} {D D' : Nat → Option Nat} {i : Nat} (hi : i < m.w * m.h) (h : ∀ j, j < m.w * m.h → D j = D' j) : eqAt m D i = eqAt m D' i := by
  unfold eqAt
  congr 2
  congr 1
  apply List.map_congr_left
  intro j hj
  rw [h j (bes_lt hi hj)]
theorem relax_eq {m : Map} (hw : 0 < m.w) (F : Field) : relax m F = (List.range (m.w * m.h)).map (eqAt m fun j => F.getD j none) := by
  unfold relax
  rw [places_eq hw, List.map_map]
  apply List.map_congr_left
  intro i hi
  have hi' : i < m.w * m.h := List.mem_range.mp hi
  show (if open_ m (pl m.w i) = false then none else if m.goals.contains (pl m.w i) = true then some 0 else least ((beside m (pl m.w i)).map fun q => (at_ m F q).map fun d => d + costAt m q)) = _
  unfold eqAt
  rw [open_pl hi', beside_pl hi', List.map_map]
  have e : (decide (0 < ci m i) = false) = (ci m i = 0) := by
    rw [decide_eq_false_iff_not]
    exact propext ⟨fun h => by omega, fun h => by omega⟩
  simp only [e]
  have e2 : (bes m.w m.h i).map ((fun q => (at_ m F q).map fun d => d + costAt m q) ∘ pl m.w) = (bes m.w m.h i).map fun j => (F.getD j none).map fun d => d + ci m j := by
    apply List.map_congr_left
    intro j hj
    have hj' := bes_lt hi' hj
    show (at_ m F (pl m.w j)).map (fun d => d + costAt m (pl m.w j)) = _
    rw [at_pl hj', costAt_pl hj']
  rw [e2]
  rfl
theorem eqAt_wall {m : Map} {D : Nat → Option Nat} {i : Nat} (h : ci m i = 0) : eqAt m D i = none := if_pos h
theorem eqAt_goal {m : Map} {D : Nat → Option Nat} {i : Nat} (h : ci m i ≠ 0) (g : gi m i = true) : eqAt m D i = some 0 := by
  unfold eqAt
  rw [if_neg h, if_pos g]
theorem eqAt_else {m : Map} {D : Nat → Option Nat} {i : Nat} (h : ci m i ≠ 0) (g : ¬ gi m i = true) : eqAt m D i = least ((bes m.w m.h i).map fun j => (D j).map fun d => d + ci m j) := by
  unfold eqAt
  rw [if_neg h, if_neg g]
/-- what a value of the equation comes from -/
theorem eqAt_some {m : Map} {D : Nat → Option Nat} {i d : Nat} (h : eqAt m D i = some d) : ci m i ≠ 0 ∧ ((gi m i = true ∧ d = 0) ∨ (¬ gi m i = true ∧ ∃ j x, j ∈ bes m.w m.h i ∧ D j = some x ∧ x + ci m j = d)) := by
  by_cases c : ci m i = 0
  · rw [eqAt_wall c] at h; cases h
  · refine ⟨c, ?_⟩
    by_cases g : gi m i = true
    · rw [eqAt_goal c g] at h
      cases h
      exact .inl ⟨g, rfl⟩
    · rw [eqAt_else c g] at h
      obtain ⟨a, _⟩ := least_some h
      obtain ⟨j, hj, e⟩ := List.mem_map.mp a
      cases q : D j with
      | none => rw [q] at e; cases e
      | some x =>
        rw [q] at e
        exact .inr ⟨g, j, x, hj, q, Option.some.inj e⟩
/-- a neighbour's value bounds the equation's -/
theorem eqAt_le {m : Map} {D : Nat → Option Nat} {i j x : Nat} (c : ci m i ≠ 0) (hj : j ∈ bes m.w m.h i) (hx : D j = some x) : ∃ e, eqAt m D i = some e ∧ e ≤ x + ci m j := by
  by_cases g : gi m i = true
  · exact ⟨0, eqAt_goal c g, Nat.zero_le _⟩
  · rw [eqAt_else c g]
    exact least_le (List.mem_map.mpr ⟨j, hj, by rw [hx]; rfl⟩)
theorem Fix.le {m : Map} {D D' : Nat → Option Nat} (h : Fix m D) (h' : Fix m D') : ∀ (d i : Nat), i < m.w * m.h → D i = some d → ∃ e, D' i = some e ∧ e ≤ d := by
  intro d
  induction d using Nat.strongRecOn with
  | ind d ih =>
    intro i hi e
    rw [h i hi] at e
    obtain ⟨c, ⟨g, z⟩ | ⟨g, j, x, hj, hx, z⟩⟩ := eqAt_some e
    · exact ⟨0, by rw [h' i hi, eqAt_goal c g], Nat.zero_le _⟩
    · have hj' := bes_lt hi hj
      have cj : ci m j ≠ 0 := by
        have q := hx
        rw [h j hj'] at q
        exact (eqAt_some q).1
      obtain ⟨y, hy, ly⟩ := ih x (by omega) j hj' hx
      obtain ⟨k, hk, lk⟩ := eqAt_le c hj hy
      exact ⟨k, by rw [h' i hi]; exact hk, by omega⟩
theorem Fix.unique {m : Map} {D D' : Nat → Option Nat} (h : Fix m D) (h' : Fix m D') {i : Nat} (hi : i < m.w * m.h) : D i = D' i := by
  cases c : D i with
  | none =>
    cases c' : D' i with
    | none => rfl
    | some d =>
      obtain ⟨e, q, _⟩ := Fix.le h' h d i hi c'
      rw [c] at q
      cases q
  | some d =>
    obtain ⟨e, q, l⟩ := Fix.le h h' d i hi c
    obtain ⟨e', q', l'⟩ := Fix.le h' h e i hi q
    rw [c] at q'
    cases q'
    rw [q]
    congr 1
    omega
/-! ### the specification's rounds come to it -/
def start0 (m : Map) : Field := (places m).map fun p => if open_ m p = true ∧ m.goals.contains p = true then some 0 else none
def rounds (m : Map) : Nat → Field
  | 0 => start0 m
  | k + 1 => relax m (rounds m k)
theorem getD_map_range {f : Nat → Option Nat} {n i : Nat} (h : i < n) : ((List.range n).map f).getD i none = f i := by
  rw [List.getD_eq_getElem?_getD, List.getElem?_map, List.getElem?_range h]
  rfl
theorem start0_at {m : Map} (hw : 0 < m.w) {i : Nat} (hi : i < m.w * m.h) : (start0 m).getD i none = if ci m i ≠ 0 ∧ gi m i = true then some 0 else none := by
  unfold start0
  rw [places_eq hw, List.map_map, getD_map_range hi]
  show (if open_ m (pl m.w i) = true ∧ m.goals.contains (pl m.w i) = true then some 0 else none) = _
  rw [open_pl hi]
  have e : (decide (0 < ci m i) = true) = (ci m i ≠ 0) := by
    rw [decide_eq_true_iff]
    exact propext ⟨fun h => by omega, fun h => by omega⟩
  simp only [e]
  rfl
theorem rounds_succ {m : Map} (hw : 0 < m.w) {k i : Nat} (hi : i < m.w * m.h) : (rounds m (k + 1)).getD i none = eqAt m (fun j => (rounds m k).getD j none) i := by
  show (relax m (rounds m k)).getD i none = _
  rw [relax_eq hw, getD_map_range hi]
theorem rounds_len {m : Map} (hw : 0 < m.w) : ∀ k, (rounds m k).length = m.w * m.h
  | 0 => by
    show ((places m).map _).length = _
    rw [List.length_map, places_eq hw, List.length_map, List.length_range]
  | k + 1 => by
    show (relax m (rounds m k)).length = _
    rw [relax_eq hw, List.length_map, List.length_range]
theorem field_ext {F : Field} {n : Nat} {D : Nat → Option Nat} (hl : F.length = n) (h : ∀ i, i < n → F.getD i none = D i) : F = (List.range n).map D := by
  apply List.ext_getElem?
  intro i
  by_cases hi : i < n
  · rw [List.getElem?_map, List.getElem?_range hi]
    have := h i hi
    rw [List.getD_eq_getElem?_getD, List.getElem?_eq_getElem (by omega)] at this
    rw [List.getElem?_eq_getElem (by omega)]
    exact congrArg some this
  · rw [List.getElem?_eq_none (by omega), List.getElem?_eq_none (by rw [List.length_map, List.length_range]; omega)]
/-- nothing told is less than it is -/
theorem rounds_low {m : Map} {D : Nat → Option Nat} (hw : 0 < m.w) (h : Fix m D) : ∀ (k i d : Nat), i < m.w * m.h → (rounds m k).getD i none = some d → ∃ e, D i = some e ∧ e ≤ d
  | 0, i, d, hi, q => by
    change (start0 m).getD i none = some d at q
    rw [start0_at hw hi] at q
    by_cases c : ci m i ≠ 0 ∧ gi m i = true
    · rw [if_pos c] at q
      cases q
      exact ⟨0, by rw [h i hi, eqAt_goal c.1 c.2], Nat.le_refl _⟩
    · rw [if_neg c] at q
      cases q
  | k + 1, i, d, hi, q => by
    rw [rounds_succ hw hi] at q
    obtain ⟨c, ⟨g, z⟩ | ⟨g, j, x, hj, hx, z⟩⟩ := eqAt_some q
    · exact ⟨0, by rw [h i hi, eqAt_goal c g], Nat.zero_le _⟩
    · obtain ⟨y, hy, ly⟩ := rounds_low hw h k j x (bes_lt hi hj) hx
      obtain ⟨e, he, le⟩ := eqAt_le (D := D) c hj hy
      exact ⟨e, by rw [h i hi]; exact he, by omega⟩
theorem filter_lt {α : Type} {p q : α → Bool} (hpq : ∀ a, p a = true → q a = true) : ∀ (l : List α), (l.filter p).length ≤ (l.filter q).length ∧ ((∃ a ∈ l, q a = true ∧ p a = false) → (l.filter p).length < (l.filter q).length)
  | [] => ⟨Nat.le_refl _, fun ⟨a, h, _⟩ => by cases h⟩
  | a :: l => by
    obtain ⟨h1, h2⟩ := filter_lt hpq l
    cases cp : p a with
    | true =>
      rw [List.filter_cons_of_pos cp, List.filter_cons_of_pos (hpq a cp)]
      refine ⟨Nat.succ_le_succ h1, fun ⟨b, hb, hq, hp⟩ => ?_⟩
      rcases List.mem_cons.mp hb with e | hb
      · rw [e, cp] at hp; cases hp
      · exact Nat.succ_lt_succ (h2 ⟨b, hb, hq, hp⟩)
    | false =>
      rw [List.filter_cons_of_neg (by rw [cp]; exact Bool.false_ne_true)]
      cases cq : q a with
      | true =>
        rw [List.filter_cons_of_pos cq]
        exact ⟨Nat.le_succ_of_le h1, fun _ => Nat.lt_succ_of_le h1⟩
      | false =>
        rw [List.filter_cons_of_neg (by rw [cq]; exact Bool.false_ne_true)]
        refine ⟨h1, fun ⟨b, hb, hq, hp⟩ => ?_⟩
        rcases List.mem_cons.mp hb with e | hb
        · rw [e, cq] at hq; cases hq
        · exact h2 ⟨b, hb, hq, hp⟩
/-- how many places are less far than d -/
def rank (n : Nat) (D : Nat → Option Nat) (d : Nat) : Nat := ((List.range n).filter fun j => (D j).any fun x => decide (x < d)).length
theorem rank_lt {n : Nat} {D : Nat → Option Nat} {j x d : Nat} (hj : j < n) (hx : D j = some x) (h : x < d) : rank n D x < rank n D d := by
  refine (filter_lt (fun a => ?_) _).2 ⟨j, List.mem_range.mpr hj, ?_, ?_⟩
  · cases c : D a with
    | none => exact fun q => q
    | some y =>
      show decide (y < x) = true → decide (y < d) = true
      rw [decide_eq_true_iff, decide_eq_true_iff]
      omega
  · rw [hx]
    exact decide_eq_true h
  · rw [hx]
    exact decide_eq_false (Nat.lt_irrefl _)
theorem rank_le (n : Nat) (D : Nat → Option Nat) (d : Nat) : rank n D d ≤ n := by
  have := List.length_filter_le (fun j => (D j).any fun x => decide (x < d)) (List.range n)
  rw [List.length_range] at this
  exact this
theorem rounds_up {m : Map} {D : Nat → Option Nat} (hw : 0 < m.w) (h : Fix m D) : ∀ (k i d : Nat), i < m.w * m.h → D i = some d → rank (m.w * m.h) D d ≤ k → ∃ e, (rounds m k).getD i none = some e ∧ e ≤ d
  | 0, i, d, hi, q, r => by
    have q0 := q
    rw [h i hi] at q
    obtain ⟨c, ⟨g, z⟩ | ⟨g, j, x, hj, hx, z⟩⟩ := eqAt_some q
    · refine ⟨0, ?_, Nat.zero_le _⟩
      show (start0 m).getD i none = some 0
      rw [start0_at hw hi, if_pos ⟨c, g⟩]
    · have hj' := bes_lt hi hj
      have cj : ci m j ≠ 0 := by
        have q := hx
        rw [h j hj'] at q
        exact (eqAt_some q).1
      have := rank_lt (d := d) hj' hx (by omega)
      omega
  | k + 1, i, d, hi, q, r => by
    have q0 := q
    rw [h i hi] at q
    rw [rounds_succ hw hi]
    obtain ⟨c, ⟨g, z⟩ | ⟨g, j, x, hj, hx, z⟩⟩ := eqAt_some q
    · exact ⟨0, eqAt_goal c g, Nat.zero_le _⟩
    · have hj' := bes_lt hi hj
      have cj : ci m j ≠ 0 := by
        have q := hx
        rw [h j hj'] at q
        exact (eqAt_some q).1
      have := rank_lt (d := d) hj' hx (by omega)
      obtain ⟨y, hy, ly⟩ := rounds_up hw h k j x hj' hx (by omega)
      obtain ⟨e, he, le⟩ := eqAt_le (D := fun j => (rounds m k).getD j none) c hj hy
      exact ⟨e, he, by omega⟩
theorem rounds_fix {m : Map} {D : Nat → Option Nat} (hw : 0 < m.w) (h : Fix m D) {k : Nat} (hk : m.w * m.h ≤ k) : rounds m k = (List.range (m.w * m.h)).map D := by
  refine field_ext (rounds_len hw k) fun i hi => ?_
  cases c : D i with
  | none =>
    cases c' : (rounds m k).getD i none with
    | none => rfl
    | some d =>
      obtain ⟨e, q, _⟩ := rounds_low hw h k i d hi c'
      rw [c] at q
      cases q
  | some d =>
    obtain ⟨e, q, l⟩ := rounds_up hw h k i d hi c (Nat.le_trans (rank_le _ _ _) hk)
    obtain ⟨e', q', l'⟩ := rounds_low hw h k i e hi q
    rw [c] at q'
    cases q'
    rw [q]
    congr 1
    omega
theorem settle_fix {m : Map} {D : Nat → Option Nat} (hw : 0 < m.w) (h : Fix m D) : ∀ (k j : Nat), m.w * m.h ≤ j + k → settle m k (rounds m j) = (List.range (m.w * m.h)).map D
  | 0, j, hk => rounds_fix hw h (by omega)
  | k + 1, j, hk => by
    show (if relax m (rounds m j) = rounds m j then rounds m j else settle m k (relax m (rounds m j))) = _
    by_cases c : relax m (rounds m j) = rounds m j
    · rw [if_pos c]
      refine field_ext (rounds_len hw j) fun i hi => ?_
      refine Fix.unique (m := m) (D := fun i => (rounds m j).getD i none) (fun i hi => ?_) h hi
      have q := rounds_succ hw (k := j) hi
      change (relax m (rounds m j)).getD i none = _ at q
      rw [c] at q
      exact q
    · rw [if_neg c]
      exact settle_fix hw h k (j + 1) (by omega)
/-- whatever meets the equation everywhere is the field -/
theorem field_of_fix {m : Map} {D : Nat → Option Nat} (hw : 0 < m.w) (h : Fix m D) : field m = (List.range (m.w * m.h)).map D :=
  settle_fix hw h (m.w * m.h + 2) 0 (by omega)
/-! ### outward from the goals: D is settled, R is reached -/
structure DI (m : Map) (D R : Nat → Option Nat) : Prop where
  dom : ∀ i d, D i = some d → i < m.w * m.h ∧ ci m i ≠ 0
  domR : ∀ i v, R i = some v → i < m.w * m.h ∧ ci m i ≠ 0 ∧ D i = none
  le : ∀ i j d v, D i = some d → R j = some v → d ≤ v
  goal : ∀ i, i < m.w * m.h → gi m i = true → ci m i ≠ 0 → D i = some 0 ∨ (D i = none ∧ R i = some 0)
  whyD : ∀ i d, D i = some d → (gi m i = true ∧ d = 0) ∨ ∃ j x, j ∈ bes m.w m.h i ∧ D j = some x ∧ x + ci m j = d
  whyR : ∀ i v, R i = some v → (gi m i = true ∧ v = 0) ∨ ∃ j x, j ∈ bes m.w m.h i ∧ D j = some x ∧ x + ci m j = v
  edge : ∀ j x i, D j = some x → i ∈ bes m.w m.h j → ci m i ≠ 0 → (∃ d, D i = some d ∧ d ≤ x + ci m j) ∨ (D i = none ∧ ∃ v, R i = some v ∧ v ≤ x + ci m j)
theorem DI.start {m : Map} {R : Nat → Option Nat} (hR : ∀ i v, R i = some v ↔ i < m.w * m.h ∧ ci m i ≠ 0 ∧ gi m i = true ∧ v = 0) : DI m (fun _ => none) R where
  dom := fun i d h => by cases h
  domR := fun i v h => by
    obtain ⟨a, b, _, _⟩ := (hR i v).mp h
    exact ⟨a, b, rfl⟩
  le := fun i j d v h => by cases h
  goal := fun i hi g c => .inr ⟨rfl, (hR i 0).mpr ⟨hi, c, g, rfl⟩⟩
  whyD := fun i d h => by cases h
  whyR := fun i v h => by
    obtain ⟨_, _, g, z⟩ := (hR i v).mp h
    exact .inl ⟨g, z⟩
  edge := fun j x i h => by cases h
/-- when nothing is reached that isn't settled, the equation holds everywhere -/
theorem DI.fix {m : Map} {D R : Nat → Option Nat} (h : DI m D R) (hR : ∀ i, R i = none) : Fix m D := by
  intro i hi
  have edge : ∀ j x, D j = some x → i ∈ bes m.w m.h j → ci m i ≠ 0 → ∃ d, D i = some d ∧ d ≤ x + ci m j := by
    intro j x a b c
    rcases h.edge j x i a b c with q | ⟨_, v, q, _⟩
    · exact q
    · rw [hR] at q; cases q
  by_cases c : ci m i = 0
  · rw [eqAt_wall c]
    cases q : D i with
    | none => rfl
    | some d => exact absurd c (h.dom i d q).2
  · by_cases g : gi m i = true
    · rw [eqAt_goal c g]
      rcases h.goal i hi g c with q | ⟨_, q⟩
      · exact q
      · rw [hR] at q; cases q
    · rw [eqAt_else c g]
      cases q : D i with
      | some d =>
        symm
        rcases h.whyD i d q with ⟨g', _⟩ | ⟨j, x, hj, hx, z⟩
        · exact absurd g' g
        · refine least_of (List.mem_map.mpr ⟨j, hj, by rw [hx]; exact congrArg some z⟩) fun e he => ?_
          obtain ⟨k, hk, ek⟩ := List.mem_map.mp he
          cases qk : D k with
          | none => rw [qk] at ek; cases ek
          | some y =>
            rw [qk] at ek
            obtain ⟨d', hd', l⟩ := edge k y qk (bes_symm hi hk) c
            rw [q] at hd'
            cases hd'
            have : y + ci m k = e := Option.some.inj ek
            omega
      | none =>
        symm
        refine least_all_none fun b hb => ?_
        obtain ⟨k, hk, ek⟩ := List.mem_map.mp hb
        cases qk : D k with
        | none => rw [qk] at ek; exact ek.symm
        | some y =>
          obtain ⟨d', hd', l⟩ := edge k y qk (bes_symm hi hk) c
          rw [q] at hd'
          cases hd'
/-- the least far of those reached is settled; those beside it are reached by it -/
def fset (D : Nat → Option Nat) (s v : Nat) : Nat → Option Nat := fun i => if i = s then some v else D i
theorem fset_same {D : Nat → Option Nat} {s v : Nat} : fset D s v s = some v := if_pos rfl
theorem fset_ne {D : Nat → Option Nat} {s v i : Nat} (h : i ≠ s) : fset D s v i = D i := if_neg h
/-- R behind the turn -/
structure Turned (m : Map) (D R R' : Nat → Option Nat) (s v : Nat) : Prop where
  self : R' s = none
  hit : ∀ j, j ∈ bes m.w m.h s → j ≠ s → ci m j ≠ 0 → D j = none → ∃ u, R' j = some u ∧ u ≤ v + ci m s ∧ (∀ x, R j = some x → u ≤ x) ∧ (u = v + ci m s ∨ R j = some u)
  miss : ∀ j, j ≠ s → ¬ (j ∈ bes m.w m.h s ∧ ci m j ≠ 0 ∧ D j = none) → R' j = R j
theorem DI.turn {m : Map} {D R R' : Nat → Option Nat} {s v : Nat} (h : DI m D R) (hs : R s = some v) (hmin : ∀ j u, R j = some u → v ≤ u) (T : Turned m D R R' s v) : DI m (fset D s v) R' := by
  obtain ⟨sn, sc, sD⟩ := h.domR s v hs
  -- what R' tells at a place other than s
  have back : ∀ j u, R' j = some u → j ≠ s ∧ ((∃ x, R j = some x ∧ u ≤ x ∧ u = x) ∨ (j ∈ bes m.w m.h s ∧ ci m j ≠ 0 ∧ D j = none ∧ u = v + ci m s)) := by
    intro j u q
    have hj : j ≠ s := fun e => by rw [e, T.self] at q; cases q
    refine ⟨hj, ?_⟩
    by_cases c : j ∈ bes m.w m.h s ∧ ci m j ≠ 0 ∧ D j = none
    · obtain ⟨c1, c2, c3⟩ := c
      obtain ⟨u', q', l1, l2, o⟩ := T.hit j c1 hj c2 c3
      rw [q] at q'
      cases q'
      rcases o with o | o
      · exact .inr ⟨c1, c2, c3, o⟩
      · exact .inl ⟨u, o, Nat.le_refl _, rfl⟩
    · rw [T.miss j hj c] at q
      exact .inl ⟨u, q, Nat.le_refl _, rfl⟩
  have keepWhy : ∀ i d, (gi m i = true ∧ d = 0) ∨ (∃ j x, j ∈ bes m.w m.h i ∧ D j = some x ∧ x + ci m j = d) → (gi m i = true ∧ d = 0) ∨ ∃ j x, j ∈ bes m.w m.h i ∧ fset D s v j = some x ∧ x + ci m j = d := by
    rintro i d (q | ⟨j, x, a, b, c⟩)
    · exact .inl q
    · refine .inr ⟨j, x, a, ?_, c⟩
      rw [fset_ne (fun e => by rw [e, sD] at b; cases b)]
      exact b
  refine ⟨?_, ?_, ?_, ?_, ?_, ?_, ?_⟩
  · intro i d q
    by_cases e : i = s
    · rw [e]; exact ⟨sn, sc⟩
    · rw [fset_ne e] at q
      exact h.dom i d q
  · intro i u q
    obtain ⟨hi, ⟨x, a, _, _⟩ | ⟨a, b, c, _⟩⟩ := back i u q
    · obtain ⟨p1, p2, p3⟩ := h.domR i x a
      exact ⟨p1, p2, by rw [fset_ne hi]; exact p3⟩
    · exact ⟨bes_lt sn a, b, by rw [fset_ne hi]; exact c⟩
  · intro i j d u q q'
    have hv : v ≤ u := by
      obtain ⟨hj, ⟨x, a, _, z⟩ | ⟨_, _, _, z⟩⟩ := back j u q'
      · have := hmin j x a
        omega
      · omega
    by_cases e : i = s
    · rw [e, fset_same] at q
      cases q
      exact hv
    · rw [fset_ne e] at q
      exact Nat.le_trans (h.le i s d v q hs) hv
  · intro i hi g c
    by_cases e : i = s
    · left
      rw [e, fset_same]
      rw [e] at g c
      rcases h.goal s sn g c with q | ⟨_, q⟩
      · rw [sD] at q; cases q
      · rw [hs] at q; exact q
    · rw [fset_ne e]
      rcases h.goal i hi g c with q | ⟨q1, q2⟩
      · exact .inl q
      · refine .inr ⟨q1, ?_⟩
        by_cases k : i ∈ bes m.w m.h s ∧ ci m i ≠ 0 ∧ D i = none
        · obtain ⟨u, a, _, b, _⟩ := T.hit i k.1 e k.2.1 k.2.2
          have := b 0 q2
          have : u = 0 := by omega
          rw [a, this]
        · rw [T.miss i e k]
          exact q2
  · intro i d q
    by_cases e : i = s
    · rw [e, fset_same] at q
      cases q
      rw [e]
      exact keepWhy s v (h.whyR s v hs)
    · rw [fset_ne e] at q
      exact keepWhy i d (h.whyD i d q)
  · intro i u q
    obtain ⟨hi, ⟨x, a, _, z⟩ | ⟨a, b, c, z⟩⟩ := back i u q
    · rw [z]
      exact keepWhy i x (h.whyR i x a)
    · exact .inr ⟨s, v, bes_symm sn a, fset_same, z.symm⟩
  · intro j x i q hi c
    by_cases e : j = s
    · rw [e, fset_same] at q
      cases q
      rw [e] at hi ⊢
      have ne := bes_ne sn hi
      rw [fset_ne ne]
      cases k : D i with
      | some d =>
        left
        have := h.le i s d v k hs
        exact ⟨d, rfl, by omega⟩
      | none =>
        right
        obtain ⟨u, a, l, _, _⟩ := T.hit i hi ne c k
        exact ⟨rfl, u, a, l⟩
    · rw [fset_ne e] at q
      by_cases e2 : i = s
      · left
        rw [e2, fset_same]
        rw [e2] at hi c
        rcases h.edge j x s q hi c with ⟨d, a, l⟩ | ⟨_, u, a, l⟩
        · rw [sD] at a; cases a
        · rw [hs] at a
          cases a
          exact ⟨v, rfl, l⟩
      · rw [fset_ne e2]
        rcases h.edge j x i q hi c with ⟨d, a, l⟩ | ⟨a, u, b, l⟩
        · exact .inl ⟨d, a, l⟩
        · refine .inr ⟨a, ?_⟩
          by_cases k : i ∈ bes m.w m.h s ∧ ci m i ≠ 0 ∧ D i = none
          · obtain ⟨u', a', _, b', _⟩ := T.hit i k.1 e2 k.2.1 k.2.2
            exact ⟨u', a', Nat.le_trans (b' u b) l⟩
          · exact ⟨u, by rw [T.miss i e2 k]; exact b, l⟩
/-! ### the turn as a walk over the places beside -/
def fdel (R : Nat → Option Nat) (s : Nat) : Nat → Option Nat := fun i => if i = s then none else R i
theorem fdel_same {R : Nat → Option Nat} {s : Nat} : fdel R s s = none := if_pos rfl
theorem fdel_ne {R : Nat → Option Nat} {s i : Nat} (h : i ≠ s) : fdel R s i = R i := if_neg h
def relaxR (c : Nat → Nat) (D : Nat → Option Nat) (far : Nat) (R : Nat → Option Nat) (o : Nat) : Nat → Option Nat :=
  if c o ≠ 0 ∧ D o = none then fset R o (min far ((R o).getD far)) else R
theorem relaxR_at (c : Nat → Nat) (D : Nat → Option Nat) (far : Nat) (R : Nat → Option Nat) (o j : Nat) :
    relaxR c D far R o j = if j = o ∧ c j ≠ 0 ∧ D j = none then some (min far ((R j).getD far)) else R j := by
  unfold relaxR
  by_cases h : c o ≠ 0 ∧ D o = none
  · rw [if_pos h]
    by_cases e : j = o
    · subst e
      rw [fset_same, if_pos ⟨rfl, h⟩]
    · rw [fset_ne e, if_neg (fun z => e z.1)]
  · rw [if_neg h, if_neg]
    rintro ⟨e, z⟩
    subst e
    exact h z
theorem fold_relax (c : Nat → Nat) (D : Nat → Option Nat) (far : Nat) : ∀ (l : List Nat) (R : Nat → Option Nat) (j : Nat),
    l.foldl (relaxR c D far) R j = if j ∈ l ∧ c j ≠ 0 ∧ D j = none then some (min far ((R j).getD far)) else R j
  | [], R, j => by rw [if_neg (fun z => by cases z.1)]; rfl
  | o :: l, R, j => by
    have step := relaxR_at c D far R o j
    rw [List.foldl_cons, fold_relax c D far l]
    by_cases h : c j ≠ 0 ∧ D j = none
    · by_cases e : j = o
      · rw [if_pos ⟨e, h⟩] at step
        rw [step, if_pos (⟨by rw [e]; exact List.mem_cons_self, h⟩ : j ∈ o :: l ∧ _)]
        by_cases m : j ∈ l
        · rw [if_pos ⟨m, h⟩]
          congr 1
          show min far (min far _) = _
          omega
        · rw [if_neg (fun z => m z.1)]
      · rw [if_neg (fun z => e z.1)] at step
        rw [step]
        by_cases m : j ∈ l
        · rw [if_pos ⟨m, h⟩, if_pos ⟨List.mem_cons_of_mem _ m, h⟩]
        · rw [if_neg (fun z => m z.1), if_neg (fun z => (List.mem_cons.mp z.1).elim e m)]
    · rw [if_neg (fun z => h z.2)] at step
      rw [step, if_neg (fun z => h z.2), if_neg (fun z => h z.2)]
theorem turned_of {m : Map} {D R : Nat → Option Nat} {s v : Nat} (hs : s < m.w * m.h) :
    Turned m D R ((bes m.w m.h s).foldl (relaxR (ci m) (fset D s v) (v + ci m s)) (fdel R s)) s v where
  self := by
    rw [fold_relax, if_neg (fun z => bes_ne hs z.1 rfl), fdel_same]
  hit := fun j hj hne hc hD => by
    refine ⟨min (v + ci m s) ((R j).getD (v + ci m s)), ?_, Nat.min_le_left _ _, fun x hx => ?_, ?_⟩
    · rw [fold_relax, if_pos ⟨hj, hc, by rw [fset_ne hne]; exact hD⟩, fdel_ne hne]
    · rw [hx]
      exact Nat.min_le_right _ _
    · cases q : R j with
      | none => exact .inl (Nat.min_self _)
      | some x =>
        show min (v + ci m s) x = _ ∨ some x = some (min (v + ci m s) x)
        by_cases c : v + ci m s ≤ x
        · exact .inl (Nat.min_eq_left c)
        · exact .inr (by rw [Nat.min_eq_right (by omega)])
  miss := fun j hne h => by
    rw [fold_relax, if_neg, fdel_ne hne]
    rintro ⟨a, b, c⟩
    rw [fset_ne hne] at c
    exact h ⟨a, b, c⟩
/-! ### how many are still nowhere -/
def nones (l : List (Option Nat)) : Nat := (l.filter fun o => o.isNone).length
theorem nones_set : ∀ {l : List (Option Nat)} {i v : Nat}, l[i]? = some none → nones (l.set i (some v)) + 1 = nones l
  | [], i, v, h => by simp at h
  | a :: l, 0, v, h => by
    have e : a = none := Option.some.inj h
    subst e
    rfl
  | a :: l, i + 1, v, h => by
    have ih := nones_set (l := l) (i := i) (v := v) h
    show ((a :: l.set i (some v)).filter fun o => o.isNone).length + 1 = ((a :: l).filter fun o => o.isNone).length
    cases a with
    | none =>
      show nones (l.set i (some v)) + 1 + 1 = nones l + 1
      omega
    | some x => exact ih
theorem nones_le (l : List (Option Nat)) : nones l ≤ l.length := List.length_filter_le _ _
theorem bes_len (w h i : Nat) : (bes w h i).length ≤ 4 := by
  unfold bes
  rw [List.length_append, List.length_append, List.length_append]
  have l : ∀ (c : Prop) [Decidable c] (k : Nat), (if c then [k] else []).length ≤ 1 := fun c _ k => by
    by_cases h : c
    · rw [if_pos h]; exact Nat.le_refl _
    · rw [if_neg h]; exact Nat.zero_le _
  have := l (i % w + 1 < w) (i + 1)
  have := l (i / w + 1 < h) (i + w)
  have := l (0 < i % w) (i - 1)
  have := l (0 < i / w) (i - w)
  omega
end Gf
set_option Elab.async false
/-! What is handed in is a row of calls, written one behind another; what is due is the machine's answers to them. -/
namespace Gf
open Ge07
def nz (n : Nat) : Int := (n : Int)
/-- how a call stands in the list -/
def enc : Ge07.Call → List Int
  | .map w h c => [0, nz w, nz h, nz c.length] ++ c.map nz
  | .set p c => [1, nz p.1, nz p.2, nz c]
  | .goal p => [2, nz p.1, nz p.2]
  | .noGoal p => [3, nz p.1, nz p.2]
  | .far p => [4, nz p.1, nz p.2]
  | .field => [5]
  | .way p => [6, nz p.1, nz p.2]
  | .next p => [7, nz p.1, nz p.2]
  | .put p => [8, nz p.1, nz p.2]
  | .go n => [9, nz n]
  | .crowd => [10]
  | .changed p c => [11, nz p.1, nz p.2, nz c]
/-- the bound that the document tells of a map's costs -/
def few : Ge07.Call → Prop
  | .map _ _ c => c.length ≤ 160
  | _ => True
def play : House → List Ge07.Call → List (List Int)
  | _, [] => []
  | s, c :: r => (Ge07.step s c).2 :: play (Ge07.step s c).1 r
theorem within_nat {z : Int} (h : PyInside.within 0 4294967295 z = true) : ∃ n : Nat, z = nz n ∧ Ge07Neutral.nat z = true ∧ z.toNat = n := by
  unfold PyInside.within at h
  rw [Bool.and_eq_true, decide_eq_true_iff, decide_eq_true_iff] at h
  refine ⟨z.toNat, (Int.toNat_of_nonneg h.1).symm, ?_, rfl⟩
  unfold Ge07Neutral.nat
  rw [Bool.and_eq_true, decide_eq_true_iff, decide_eq_true_iff]
  omega
theorem all_nat : ∀ {r : List Int}, r.all (PyInside.within 0 4294967295) = true → ∃ c : List Nat, r = c.map nz ∧ r.all Ge07Neutral.nat = true ∧ r.map Int.toNat = c
  | [], _ => ⟨[], rfl, rfl, rfl⟩
  | z :: r, h => by
    rw [List.all_cons, Bool.and_eq_true] at h
    obtain ⟨n, e1, e2, e3⟩ := within_nat h.1
    obtain ⟨c, f1, f2, f3⟩ := all_nat h.2
    refine ⟨n :: c, by rw [e1, f1]; rfl, by rw [List.all_cons, e2, f2]; rfl, by rw [List.map_cons, e3, f3]⟩
theorem callOf_nat {l : List Int} (h : l.all Ge07Neutral.nat = true) : Ge07Neutral.callOf l = Ge07Neutral.callIn (l.map Int.toNat) := by
  unfold Ge07Neutral.callOf
  rw [h, if_neg (by decide)]
/-- one call -/
theorem raw_ok {c : List (List Int)} (ok : PyFlat.okCall PyGe07.shape c) (bd : PyInside.call PyGe07.bound c = true) :
    ∃ g, Ge07Neutral.callOf ((PyGe07.whole c).headD []) = some g ∧ PyFlat.put1 c = enc g ∧ few g := by
  obtain ⟨p, a, xs, rfl, hs⟩ := ok
  have two : ∀ {a xs}, (2, 0) = (a.length, xs.length) → ∃ x y : Int, a = [x, y] ∧ xs = ([] : List (List Int)) := by
    intro a xs e
    injection e with e1 e2
    match a, xs, e1, e2 with
    | [x, y], [], _, _ => exact ⟨x, y, rfl, rfl⟩
  have three : ∀ {a xs}, (3, 0) = (a.length, xs.length) → ∃ x y z : Int, a = [x, y, z] ∧ xs = ([] : List (List Int)) := by
    intro a xs e
    injection e with e1 e2
    match a, xs, e1, e2 with
    | [x, y, z], [], _, _ => exact ⟨x, y, z, rfl, rfl⟩
  have zero : ∀ {a : List Int} {xs}, (0, 0) = (a.length, xs.length) → a = [] ∧ xs = ([] : List (List Int)) := by
    intro a xs e
    injection e with e1 e2
    match a, xs, e1, e2 with
    | [], [], _, _ => exact ⟨rfl, rfl⟩
  have one : ∀ {a : List Int} {xs}, (1, 0) = (a.length, xs.length) → ∃ x, a = [x] ∧ xs = ([] : List (List Int)) := by
    intro a xs e
    injection e with e1 e2
    match a, xs, e1, e2 with
    | [x], [], _, _ => exact ⟨x, rfl, rfl⟩
  have row : ∀ {a : List Int} {xs}, (2, 1) = (a.length, xs.length) → ∃ x y r, a = [x, y] ∧ xs = ([r] : List (List Int)) := by
    intro a xs e
    injection e with e1 e2
    match a, xs, e1, e2 with
    | [x, y], [r], _, _ => exact ⟨x, y, r, rfl, rfl⟩
  have b1 : ∀ {b : Bool}, (b && true) = true → b = true := fun h => by rw [Bool.and_true] at h; exact h
  unfold PyGe07.shape at hs
  by_cases h0 : p = 0
  · subst h0
    obtain ⟨x, y, r, rfl, rfl⟩ := row (Option.some.inj hs)
    have bd' : ((PyInside.within 0 4294967295 x && (PyInside.within 0 4294967295 y && true)) && (decide (0 ≤ r.length) && decide (r.length ≤ 160) && r.all (PyInside.within 0 4294967295) && true)) = true := bd
    simp only [Bool.and_eq_true, decide_eq_true_iff] at bd'
    obtain ⟨⟨h1, h2, _⟩, ⟨⟨_, h4⟩, h5⟩, _⟩ := bd'
    obtain ⟨n1, rfl, q1, t1⟩ := within_nat h1
    obtain ⟨n2, rfl, q2, t2⟩ := within_nat h2
    obtain ⟨c, rfl, q3, t3⟩ := all_nat h5
    refine ⟨.map n1 n2 c, ?_, ?_, by rw [List.length_map] at h4; exact h4⟩
    · show Ge07Neutral.callOf ([0] ++ [nz n1] ++ [nz n2] ++ c.map nz) = _
      rw [callOf_nat (by rw [List.all_append, q3, Bool.and_true]; show ((true && (Ge07Neutral.nat (nz n1) && (Ge07Neutral.nat (nz n2) && true)))) = true; rw [q1, q2]; rfl), List.map_append, t3]
      rfl
    · show [0, nz n1, nz n2] ++ (PyFlat.putRow (c.map nz) ++ []) = [0, nz n1, nz n2, nz c.length] ++ c.map nz
      unfold PyFlat.putRow
      rw [List.length_map, List.append_nil]
      rfl
  rw [if_neg h0] at hs
  by_cases h1 : p = 1
  · subst h1
    obtain ⟨x, y, z, rfl, rfl⟩ := three (Option.some.inj hs)
    have bd' : ((PyInside.within 0 4294967295 x && (PyInside.within 0 4294967295 y && (PyInside.within 0 4294967295 z && true))) && true) = true := bd
    simp only [Bool.and_eq_true] at bd'
    obtain ⟨⟨h1, h2, h3, _⟩, _⟩ := bd'
    obtain ⟨n1, rfl, q1, _⟩ := within_nat h1
    obtain ⟨n2, rfl, q2, _⟩ := within_nat h2
    obtain ⟨n3, rfl, q3, _⟩ := within_nat h3
    refine ⟨.set (n1, n2) n3, ?_, rfl, trivial⟩
    show Ge07Neutral.callOf [1, nz n1, nz n2, nz n3] = _
    rw [callOf_nat (by show (true && (Ge07Neutral.nat (nz n1) && (Ge07Neutral.nat (nz n2) && (Ge07Neutral.nat (nz n3) && true)))) = true; rw [q1, q2, q3]; rfl)]
    rfl
  rw [if_neg h1] at hs
  have pair : ∀ (k : Int) (kn : Nat) (g : Place → Ge07.Call), k = nz kn → PyGe07.bound k = ([(0, 4294967295), (0, 4294967295)], []) → some (2, 0) = some (a.length, xs.length) → PyInside.call PyGe07.bound ((k :: a) :: xs) = true → Ge07Neutral.nat k = true →
      (∀ x y : Int, (PyGe07.whole [[k, x, y]]).headD [] = [k, x, y]) → (∀ n1 n2, Ge07Neutral.callIn [kn, n1, n2] = some (g (n1, n2))) → (∀ n1 n2, enc (g (n1, n2)) = [k, nz n1, nz n2]) → (∀ n1 n2, few (g (n1, n2))) →
      ∃ g', Ge07Neutral.callOf ((PyGe07.whole ((k :: a) :: xs)).headD []) = some g' ∧ PyFlat.put1 ((k :: a) :: xs) = enc g' ∧ few g' := by
    intro k kn g ek hbk hs bd hk hw hc he hf
    obtain ⟨x, y, rfl, rfl⟩ := two (Option.some.inj hs)
    have bd' : (PyInside.each (PyGe07.bound k).1 [x, y] && PyInside.lists (PyGe07.bound k).2 []) = true := bd
    rw [hbk] at bd'
    have bd2 : ((PyInside.within 0 4294967295 x && (PyInside.within 0 4294967295 y && true)) && true) = true := bd'
    simp only [Bool.and_eq_true] at bd2
    obtain ⟨⟨h1, h2, _⟩, _⟩ := bd2
    obtain ⟨n1, rfl, q1, _⟩ := within_nat h1
    obtain ⟨n2, rfl, q2, _⟩ := within_nat h2
    refine ⟨g (n1, n2), ?_, by rw [he]; rfl, hf n1 n2⟩
    rw [hw, callOf_nat (by show (Ge07Neutral.nat k && (Ge07Neutral.nat (nz n1) && (Ge07Neutral.nat (nz n2) && true))) = true; rw [hk, q1, q2]; rfl), ek]
    exact hc n1 n2
  by_cases h2 : p = 2
  · subst h2
    exact pair 2 2 .goal rfl rfl hs bd rfl (fun _ _ => rfl) (fun _ _ => rfl) (fun _ _ => rfl) fun _ _ => trivial
  rw [if_neg h2] at hs
  by_cases h3 : p = 3
  · subst h3
    exact pair 3 3 .noGoal rfl rfl hs bd rfl (fun _ _ => rfl) (fun _ _ => rfl) (fun _ _ => rfl) fun _ _ => trivial
  rw [if_neg h3] at hs
  by_cases h4 : p = 4
  · subst h4
    exact pair 4 4 .far rfl rfl hs bd rfl (fun _ _ => rfl) (fun _ _ => rfl) (fun _ _ => rfl) fun _ _ => trivial
  rw [if_neg h4] at hs
  by_cases h5 : p = 5
  · subst h5
    obtain ⟨rfl, rfl⟩ := zero (Option.some.inj hs)
    exact ⟨.field, rfl, rfl, trivial⟩
  rw [if_neg h5] at hs
  by_cases h6 : p = 6
  · subst h6
    exact pair 6 6 .way rfl rfl hs bd rfl (fun _ _ => rfl) (fun _ _ => rfl) (fun _ _ => rfl) fun _ _ => trivial
  rw [if_neg h6] at hs
  by_cases h7 : p = 7
  · subst h7
    exact pair 7 7 .next rfl rfl hs bd rfl (fun _ _ => rfl) (fun _ _ => rfl) (fun _ _ => rfl) fun _ _ => trivial
  rw [if_neg h7] at hs
  by_cases h8 : p = 8
  · subst h8
    exact pair 8 8 .put rfl rfl hs bd rfl (fun _ _ => rfl) (fun _ _ => rfl) (fun _ _ => rfl) fun _ _ => trivial
  rw [if_neg h8] at hs
  by_cases h9 : p = 9
  · subst h9
    obtain ⟨x, rfl, rfl⟩ := one (Option.some.inj hs)
    have bd' : ((PyInside.within 0 4294967295 x && true) && true) = true := bd
    simp only [Bool.and_eq_true] at bd'
    obtain ⟨n1, rfl, q1, _⟩ := within_nat bd'.1.1
    refine ⟨.go n1, ?_, rfl, trivial⟩
    show Ge07Neutral.callOf [9, nz n1] = _
    rw [callOf_nat (by show (true && (Ge07Neutral.nat (nz n1) && true)) = true; rw [q1]; rfl)]
    rfl
  rw [if_neg h9] at hs
  by_cases h10 : p = 10
  · subst h10
    obtain ⟨rfl, rfl⟩ := zero (Option.some.inj hs)
    exact ⟨.crowd, rfl, rfl, trivial⟩
  rw [if_neg h10] at hs
  by_cases h11 : p = 11
  · subst h11
    obtain ⟨x, y, z, rfl, rfl⟩ := three (Option.some.inj hs)
    have bd' : ((PyInside.within 0 4294967295 x && (PyInside.within 0 4294967295 y && (PyInside.within 0 4294967295 z && true))) && true) = true := bd
    simp only [Bool.and_eq_true] at bd'
    obtain ⟨⟨h1, h2, h3, _⟩, _⟩ := bd'
    obtain ⟨n1, rfl, q1, _⟩ := within_nat h1
    obtain ⟨n2, rfl, q2, _⟩ := within_nat h2
    obtain ⟨n3, rfl, q3, _⟩ := within_nat h3
    refine ⟨.changed (n1, n2) n3, ?_, rfl, trivial⟩
    show Ge07Neutral.callOf [11, nz n1, nz n2, nz n3] = _
    rw [callOf_nat (by show (true && (Ge07Neutral.nat (nz n1) && (Ge07Neutral.nat (nz n2) && (Ge07Neutral.nat (nz n3) && true)))) = true; rw [q1, q2, q3]; rfl)]
    rfl
  rw [if_neg h11] at hs
  cases hs
theorem raws_ok : ∀ {raw : List (List (List Int))}, (∀ c ∈ raw, PyFlat.okCall PyGe07.shape c) → PyInside.calls PyGe07.bound raw = true →
    ∃ cs : List Ge07.Call, PyFlat.put raw = cs.flatMap enc ∧ cs.length = raw.length ∧ (∀ c ∈ cs, few c) ∧ ∀ s : House, PyFlat.played (fun s c => Ge07Neutral.step s (c.headD [])) s (raw.map PyGe07.whole) = play s cs
  | [], _, _ => ⟨[], rfl, rfl, fun c hc => (by cases hc), fun _ => rfl⟩
  | c :: raw, ok, bd => by
    have bd' : (PyInside.call PyGe07.bound c && PyInside.calls PyGe07.bound raw) = true := bd
    rw [Bool.and_eq_true] at bd'
    obtain ⟨g, e1, e2, e3⟩ := raw_ok (ok c List.mem_cons_self) bd'.1
    obtain ⟨cs, f1, f2, f3, f4⟩ := raws_ok (fun d hd => ok d (List.mem_cons_of_mem _ hd)) bd'.2
    refine ⟨g :: cs, ?_, by rw [List.length_cons, List.length_cons, f2], fun d hd => ?_, fun s => ?_⟩
    · show PyFlat.put1 c ++ PyFlat.put raw = _
      rw [e2, f1]
      rfl
    · rcases List.mem_cons.mp hd with e | hd
      · rw [e]; exact e3
      · exact f3 d hd
    · have es : Ge07Neutral.step s ((PyGe07.whole c).headD []) = Ge07.step s g := by
        unfold Ge07Neutral.step
        rw [e1]
      show (Ge07Neutral.step s ((PyGe07.whole c).headD [])).2 :: PyFlat.played _ (Ge07Neutral.step s ((PyGe07.whole c).headD [])).1 (raw.map PyGe07.whole) = _
      rw [es, f4]
      rfl
/-- **The request**: calls written one behind another; what is due is what the machine answers, told -/
theorem asked_is {ns : List Int} (h : PyGe07.answers_asked ns = true) : ∃ cs : List Ge07.Call, ns = cs.flatMap enc ∧ cs.length ≤ 30 ∧ (∀ c ∈ cs, few c) ∧ PyGe07.answers ns = PyFlat.told (play Ge07.init cs) ∧ (PyFlat.told (play Ge07.init cs)).length ≤ 10000000 := by
  unfold PyGe07.answers_asked at h
  cases e : PyFlat.calls PyGe07.shape ns.length ns with
  | none => rw [e] at h; cases h
  | some raw =>
    rw [e] at h
    simp only [Bool.and_eq_true] at h
    obtain ⟨⟨⟨⟨_, h2⟩, h3⟩, h4⟩, h5⟩ := h
    obtain ⟨e1, ok⟩ := PyFlat.put_calls _ _ _ e
    obtain ⟨cs, f1, f2, f3, f4⟩ := raws_ok ok h3
    have ea : PyGe07.answers ns = PyFlat.told (play Ge07.init cs) := by
      unfold PyGe07.answers PyGe07.calls
      rw [e]
      show PyFlat.told (PyFlat.played _ Ge07Neutral.start (raw.map PyGe07.whole)) = _
      rw [f4]
      rfl
    refine ⟨cs, e1.trans f1, ?_, f3, ea, ?_⟩
    · have := of_decide_eq_true (show decide (raw.length ≤ 30) = true from h2)
      omega
    · have := of_decide_eq_true (show decide ((PyGe07.answers ns).length ≤ 10000000) = true from h5)
      rw [ea] at this
      exact this
end Gf
set_option Elab.async false
/-! What holds of the house between two calls. -/
namespace Gf
open Ge07
structure WF (g : House) : Prop where
  w0 : 0 < g.map.w
  w12 : g.map.w ≤ 12
  h0 : 0 < g.map.h
  h12 : g.map.h ≤ 12
  len : g.map.costs.length = g.map.w * g.map.h
  goalsIn : ∀ p ∈ g.map.goals, inside g.map p = true
  goalsNd : g.map.goals.Nodup
  goals6 : g.map.goals.length ≤ 6
  crowdIn : ∀ a ∈ g.crowd, inside g.map a.2 = true
  crowdUp : g.crowd.Pairwise fun a b => a.1 < b.1
  crowdNew : ∀ a ∈ g.crowd, a.1 < g.given
  crowd12 : g.crowd.length ≤ 12
theorem wf_init : WF Ge07.init where
  w0 := by decide
  w12 := by decide
  h0 := by decide
  h12 := by decide
  len := rfl
  goalsIn := fun p hp => by cases hp
  goalsNd := List.nodup_nil
  goals6 := by decide
  crowdIn := fun p hp => by cases hp
  crowdUp := List.Pairwise.nil
  crowdNew := fun p hp => by cases hp
  crowd12 := by decide
/-- the crowd alone, within a map -/
structure CrowdOk (m : Map) (given : Nat) (l : List One) : Prop where
  ins : ∀ a ∈ l, inside m a.2 = true
  up : l.Pairwise fun a b => a.1 < b.1
  new : ∀ a ∈ l, a.1 < given
  n12 : l.length ≤ 12
theorem beside_in {m : Map} {p q : Place} (hp : inside m p = true) (hq : q ∈ beside m p) : inside m q = true := by
  obtain ⟨h1, h2⟩ := inside_iff.mp hp
  have hw : 0 < m.w := by omega
  have hi := ix_lt (w := m.w) (h := m.h) h1 h2
  rw [← pl_ix (w := m.w) h1, beside_pl hi] at hq
  obtain ⟨j, hj, rfl⟩ := List.mem_map.mp hq
  exact pl_inside (bes_lt hi hj)
theorem stepOne_ok {m : Map} {f : Field} {given : Nat} {l : List One} {a : One} (h : CrowdOk m given l) (ha : inside m a.2 = true) : CrowdOk m given (stepOne m f l a) ∧ (stepOne m f l a).map (·.1) = l.map (·.1) := by
  unfold stepOne
  dsimp only
  split
  · exact ⟨h, rfl⟩
  · rename_i q hq
    have hqb : q ∈ beside m a.2 := (List.mem_filter.mp (List.mem_of_find?_eq_some hq)).1
    have hqi := beside_in ha hqb
    have hfst : ∀ b : One, (if b.1 = a.1 then (b.1, q) else b).1 = b.1 := fun b => by split <;> rfl
    have e : (l.map fun b => if b.1 = a.1 then (b.1, q) else b).map (·.1) = l.map (·.1) := by
      rw [List.map_map]
      apply List.map_congr_left
      intro b _
      exact hfst b
    refine ⟨⟨fun b hb => ?_, ?_, fun b hb => ?_, by rw [List.length_map]; exact h.n12⟩, e⟩
    · obtain ⟨c, hc, rfl⟩ := List.mem_map.mp hb
      split
      · exact hqi
      · exact h.ins c hc
    · rw [List.pairwise_map]
      exact h.up.imp fun {b c} z => by rw [hfst, hfst]; exact z
    · obtain ⟨c, hc, rfl⟩ := List.mem_map.mp hb
      rw [hfst]
      exact h.new c hc
theorem insertOne_mem {m : Map} {f : Field} {a b : One} : ∀ {l : List One}, b ∈ insertOne m f a l → b = a ∨ b ∈ l
  | [], h => .inl (List.mem_singleton.mp h)
  | c :: l, h => by
    unfold insertOne at h
    split at h
    · exact List.mem_cons.mp h
    · rcases List.mem_cons.mp h with e | h
      · exact .inr (by rw [e]; exact List.mem_cons_self)
      · rcases insertOne_mem h with e | e
        · exact .inl e
        · exact .inr (List.mem_cons_of_mem _ e)
theorem order_mem {m : Map} {f : Field} {b : One} : ∀ {l : List One}, b ∈ l.foldr (insertOne m f) [] → b ∈ l
  | [], h => h
  | a :: l, h => by
    rcases insertOne_mem h with e | e
    · rw [e]; exact List.mem_cons_self
    · exact List.mem_cons_of_mem _ (order_mem e)
theorem steps_ok {m : Map} {f : Field} {given : Nat} : ∀ (o l : List One), (∀ a ∈ o, inside m a.2 = true) → CrowdOk m given l → CrowdOk m given (o.foldl (fun l a => stepOne m f l a) l) ∧ (o.foldl (fun l a => stepOne m f l a) l).map (·.1) = l.map (·.1)
  | [], l, _, h => ⟨h, rfl⟩
  | a :: o, l, ho, h => by
    obtain ⟨h1, e1⟩ := stepOne_ok (f := f) h (ho a List.mem_cons_self)
    obtain ⟨h2, e2⟩ := steps_ok o _ (fun b hb => ho b (List.mem_cons_of_mem _ hb)) h1
    exact ⟨h2, e2.trans e1⟩
theorem CrowdOk.sub {m : Map} {given : Nat} {l r : List One} (h : CrowdOk m given l) (s : r.Sublist l) : CrowdOk m given r :=
  ⟨fun a ha => h.ins a (s.subset ha), h.up.sublist s, fun a ha => h.new a (s.subset ha), Nat.le_trans s.length_le h.n12⟩
theorem crowdStep_ok {m : Map} {f : Field} {given : Nat} {l : List One} (h : CrowdOk m given l) : CrowdOk m given (crowdStep m f l).1 := by
  have z := (steps_ok (f := f) (l.foldr (insertOne m f) []) l (fun a ha => h.ins a (order_mem ha)) h).1
  exact z.sub List.filter_sublist
theorem goSteps_ok {m : Map} {f : Field} {given : Nat} : ∀ (k : Nat) {l : List One}, CrowdOk m given l → CrowdOk m given (goSteps k m f l).1
  | 0, _, h => h
  | k + 1, _, h => goSteps_ok k (crowdStep_ok h)
theorem WF.crowd {g : House} (h : WF g) : CrowdOk g.map g.given g.crowd := ⟨h.crowdIn, h.crowdUp, h.crowdNew, h.crowd12⟩
theorem wf_step {g : House} (h : WF g) (c : Ge07.Call) : WF (Ge07.step g c).1 := by
  cases c with
  | map w hh c =>
    show WF (if w = 0 ∨ 12 < w ∨ hh = 0 ∨ 12 < hh ∨ c.length ≠ w * hh ∨ (c.all fun n => decide (n ≤ 99)) = false then (g, [-1]) else ({ g with map := ⟨w, hh, c, []⟩, crowd := [] }, _)).1
    split
    · exact h
    · rename_i hn
      refine ⟨?_, ?_, ?_, ?_, ?_, fun p hp => (by cases hp), List.nodup_nil, Nat.zero_le _, fun p hp => (by cases hp), .nil, fun p hp => (by cases hp), Nat.zero_le _⟩
      · show 0 < w
        omega
      · show w ≤ 12
        omega
      · show 0 < hh
        omega
      · show hh ≤ 12
        omega
      · show c.length = w * hh
        exact Decidable.of_not_not fun z => hn (.inr (.inr (.inr (.inr (.inl z)))))
  | set p c =>
    show WF (if 99 < c then (g, [-1]) else if inside g.map p = false then (g, [-2]) else if c = 0 ∧ (g.crowd.any fun a => a.2 == p) = true then (g, [-4]) else ({ g with map := setCost g.map p c }, _)).1
    split
    · exact h
    · split
      · exact h
      · split
        · exact h
        · exact ⟨h.w0, h.w12, h.h0, h.h12, by show (g.map.costs.set _ _).length = _; rw [List.length_set]; exact h.len, h.goalsIn, h.goalsNd, h.goals6, h.crowdIn, h.crowdUp, h.crowdNew, h.crowd12⟩
  | goal p =>
    show WF (if inside g.map p = false then (g, [-2]) else if g.map.goals.contains p = true then (g, [-4]) else if 6 ≤ g.map.goals.length then (g, [-5]) else ({ g with map := { g.map with goals := g.map.goals ++ [p] } }, _)).1
    split
    · exact h
    · rename_i h1
      split
      · exact h
      · rename_i h2
        split
        · exact h
        · rename_i h3
          refine ⟨h.w0, h.w12, h.h0, h.h12, h.len, fun q hq => ?_, ?_, ?_, h.crowdIn, h.crowdUp, h.crowdNew, h.crowd12⟩
          · rcases List.mem_append.mp hq with z | z
            · exact h.goalsIn q z
            · rw [List.mem_singleton.mp z]
              show inside g.map p = true
              cases c : inside g.map p with
              | true => rfl
              | false => exact absurd c h1
          · show (g.map.goals ++ [p]).Nodup
            rw [List.nodup_append]
            refine ⟨h.goalsNd, by simp, fun a ha b hb e => h2 ?_⟩
            rw [List.contains_iff_mem, ← List.mem_singleton.mp hb, ← e]
            exact ha
          · show (g.map.goals ++ [p]).length ≤ 6
            rw [List.length_append]
            show _ + 1 ≤ 6
            omega
  | noGoal p =>
    show WF (if g.map.goals.contains p = false then (g, [-2]) else ({ g with map := { g.map with goals := g.map.goals.filter fun q => q != p } }, _)).1
    split
    · exact h
    · exact ⟨h.w0, h.w12, h.h0, h.h12, h.len, fun q hq => h.goalsIn q (List.mem_filter.mp hq).1, h.goalsNd.sublist List.filter_sublist, Nat.le_trans (List.length_filter_le _ _) h.goals6, h.crowdIn, h.crowdUp, h.crowdNew, h.crowd12⟩
  | far p => exact h
  | field => exact h
  | way p => exact h
  | next p => exact h
  | put p =>
    show WF (if inside g.map p = false then (g, [-2]) else if open_ g.map p = false ∨ (g.crowd.any fun a => a.2 == p) = true then (g, [-4]) else if 12 ≤ g.crowd.length then (g, [-5]) else ({ g with crowd := g.crowd ++ [(g.given, p)], given := g.given + 1 }, _)).1
    split
    · exact h
    · rename_i h1
      split
      · exact h
      · split
        · exact h
        · rename_i h3
          refine ⟨h.w0, h.w12, h.h0, h.h12, h.len, h.goalsIn, h.goalsNd, h.goals6, fun a ha => ?_, ?_, fun a ha => ?_, ?_⟩
          · rcases List.mem_append.mp ha with z | z
            · exact h.crowdIn a z
            · rw [List.mem_singleton.mp z]
              show inside g.map p = true
              cases c : inside g.map p with
              | true => rfl
              | false => exact absurd c h1
          · show (g.crowd ++ [(g.given, p)]).Pairwise _
            rw [List.pairwise_append]
            refine ⟨h.crowdUp, List.pairwise_singleton _ _, fun a ha b hb => ?_⟩
            rw [List.mem_singleton.mp hb]
            exact h.crowdNew a ha
          · rcases List.mem_append.mp ha with z | z
            · exact Nat.lt_succ_of_lt (h.crowdNew a z)
            · rw [List.mem_singleton.mp z]
              exact Nat.lt_succ_self _
          · show (g.crowd ++ [(g.given, p)]).length ≤ 12
            rw [List.length_append]
            show _ + 1 ≤ 12
            omega
  | go n =>
    show WF (if 60 < n then (g, [-1]) else ({ g with crowd := (goSteps n g.map (Ge07.field g.map) g.crowd).1 }, _)).1
    split
    · exact h
    · obtain ⟨a, b, c, d⟩ := goSteps_ok (f := Ge07.field g.map) n h.crowd
      exact ⟨h.w0, h.w12, h.h0, h.h12, h.len, h.goalsIn, h.goalsNd, h.goals6, a, b, c, d⟩
  | crowd => exact h
  | changed p c => exact h
end Gf
set_option Elab.async false
/-! next, way, the crowd's step, by spots. -/
namespace Gf
open Ge07
/-- the field by spots -/
def fldOf (m : Map) (i : Nat) : Option Nat := (Ge07.field m).getD i none
theorem startless_fix (m : Map) (hw : 0 < m.w) (h : ∃ D, Fix m D) : Fix m (fldOf m) ∧ (Ge07.field m).length = m.w * m.h := by
  obtain ⟨D, hD⟩ := h
  have e := field_of_fix hw hD
  refine ⟨fun i hi => ?_, by rw [e, List.length_map, List.length_range]⟩
  have e1 : ∀ j, j < m.w * m.h → fldOf m j = D j := fun j hj => by
    unfold fldOf
    rw [e, getD_map_range hj]
  rw [e1 i hi, hD i hi]
  exact eqAt_congr hi fun j hj => (e1 j hj).symm
theorem least_one {R : Nat → Option Nat} : ∀ (v i : Nat), R i = some v → ∃ s u, R s = some u ∧ ∀ j x, R j = some x → u ≤ x := by
  intro v
  induction v using Nat.strongRecOn with
  | ind v ih =>
    intro i h
    by_cases c : ∃ j x, R j = some x ∧ x < v
    · obtain ⟨j, x, e, l⟩ := c
      exact ih x l j e
    · exact ⟨i, v, h, fun j x e => Nat.le_of_not_lt fun l => c ⟨j, x, e, l⟩⟩
def unsettled (n : Nat) (D : Nat → Option Nat) : Nat := ((List.range n).filter fun i => (D i).isNone).length
theorem DI.finish {m : Map} : ∀ (k : Nat) (D R : Nat → Option Nat), DI m D R → unsettled (m.w * m.h) D ≤ k → ∃ D', Fix m D' := by
  intro k
  induction k with
  | zero =>
    intro D R h hk
    refine ⟨D, h.fix fun i => ?_⟩
    cases c : R i with
    | none => rfl
    | some v =>
      obtain ⟨hi, _, hD⟩ := h.domR i v c
      have hm : i ∈ (List.range (m.w * m.h)).filter fun i => (D i).isNone := List.mem_filter.mpr ⟨List.mem_range.mpr hi, by rw [hD]; rfl⟩
      have := List.length_pos_of_mem hm
      unfold unsettled at hk
      omega
  | succ k ih =>
    intro D R h hk
    by_cases c : ∃ i v, R i = some v
    · obtain ⟨i, v0, e0⟩ := c
      obtain ⟨s, v, hs, hmin⟩ := least_one v0 i e0
      obtain ⟨hn, _, hD⟩ := h.domR s v hs
      refine ih _ _ (h.turn hs hmin (turned_of hn)) ?_
      have lt : unsettled (m.w * m.h) (fset D s v) < unsettled (m.w * m.h) D := by
        refine (filter_lt (fun a ha => ?_) _).2 ⟨s, List.mem_range.mpr hn, by rw [hD]; rfl, by rw [fset_same]; rfl⟩
        by_cases e : a = s
        · rw [e, fset_same] at ha
          cases ha
        · rw [fset_ne e] at ha
          exact ha
      omega
    · refine ⟨D, h.fix fun i => ?_⟩
      cases q : R i with
      | none => rfl
      | some v => exact absurd ⟨i, v, q⟩ c
theorem exists_fix (m : Map) : ∃ D, Fix m D := by
  refine DI.finish _ _ _ (DI.start (m := m) (R := fun i => if i < m.w * m.h ∧ ci m i ≠ 0 ∧ gi m i = true then some 0 else none) fun i v => ?_) (Nat.le_refl _)
  by_cases c : i < m.w * m.h ∧ ci m i ≠ 0 ∧ gi m i = true
  · rw [if_pos c]
    exact ⟨fun e => ⟨c.1, c.2.1, c.2.2, (Option.some.inj e).symm⟩, fun e => by rw [e.2.2.2]⟩
  · rw [if_neg c]
    exact ⟨fun e => (by cases e), fun e => absurd ⟨e.1, e.2.1, e.2.2.1⟩ c⟩
theorem fld_fix {m : Map} (hw : 0 < m.w) : Fix m (fldOf m) := (startless_fix m hw (exists_fix m)).1
theorem field_len {m : Map} (hw : 0 < m.w) : (Ge07.field m).length = m.w * m.h := (startless_fix m hw (exists_fix m)).2
theorem at_fld {m : Map} {p : Place} (hp : inside m p = true) : at_ m (Ge07.field m) p = fldOf m (ix m.w p) := by
  unfold at_ fldOf ix
  rw [if_pos hp]
/-! ### next -/
def nxt (m : Map) (D : Nat → Option Nat) (i : Nat) : Option Nat := match D i with
  | none => none
  | some 0 => none
  | some d => (bes m.w m.h i).find? fun j => (D j).any fun e => e + ci m j == d
theorem find_map {α β : Type} {f : α → β} {p : β → Bool} : ∀ l : List α, (l.map f).find? p = (l.find? fun a => p (f a)).map f
  | [] => rfl
  | a :: l => by
    rw [List.map_cons, List.find?_cons, List.find?_cons]
    cases p (f a) with
    | true => rfl
    | false => exact find_map l
theorem find_congr {α : Type} {p q : α → Bool} : ∀ {l : List α}, (∀ a ∈ l, p a = q a) → l.find? p = l.find? q
  | [], _ => rfl
  | a :: l, h => by
    rw [List.find?_cons, List.find?_cons, h a List.mem_cons_self, find_congr fun b hb => h b (List.mem_cons_of_mem _ hb)]
theorem next_pl {m : Map} {F : Field} {i : Nat} (hi : i < m.w * m.h) : Ge07.next m F (pl m.w i) = (nxt m (fun j => F.getD j none) i).map (pl m.w) := by
  unfold Ge07.next nxt
  rw [at_pl hi]
  dsimp only
  cases c : F.getD i none with
  | none => rfl
  | some d =>
    cases d with
    | zero => rfl
    | succ d =>
      show (beside m (pl m.w i)).find? _ = Option.map _ (List.find? _ _)
      rw [beside_pl hi, find_map]
      congr 1
      apply find_congr
      intro j hj
      have hj' := bes_lt hi hj
      rw [at_pl hj', costAt_pl hj']
/-- where it's some way to a goal there is a next place, which is nearer by what it costs -/
theorem nxt_some {m : Map} {D : Nat → Option Nat} (h : Fix m D) {i d : Nat} (hi : i < m.w * m.h) (hd : D i = some d) (h0 : 0 < d) : ∃ j x, nxt m D i = some j ∧ j ∈ bes m.w m.h i ∧ j < m.w * m.h ∧ D j = some x ∧ x + ci m j = d ∧ x < d := by
  obtain ⟨d', rfl⟩ : ∃ d', d = d' + 1 := ⟨d - 1, by omega⟩
  have q := hd
  rw [h i hi] at q
  obtain ⟨c, ⟨g, z⟩ | ⟨g, j, x, hj, hx, z⟩⟩ := eqAt_some q
  · omega
  · have hn : nxt m D i = (bes m.w m.h i).find? fun j => (D j).any fun e => e + ci m j == d' + 1 := by
      unfold nxt
      rw [hd] <;> rfl
    cases c2 : (bes m.w m.h i).find? fun j => (D j).any fun e => e + ci m j == d' + 1 with
    | none =>
      have z2 := List.find?_eq_none.mp c2 j hj
      rw [hx] at z2
      exact absurd (show (x + ci m j == d' + 1) = true by rw [z]; exact beq_self_eq_true _) z2
    | some k =>
      have hk := List.mem_of_find?_eq_some c2
      have hp := List.find?_some c2
      cases c3 : D k with
      | none => rw [c3] at hp; cases hp
      | some y =>
        rw [c3] at hp
        have hy : y + ci m k = d' + 1 := beq_iff_eq.mp hp
        have hk' := bes_lt hi hk
        have ck : ci m k ≠ 0 := by
          have q2 := c3
          rw [h k hk'] at q2
          exact (eqAt_some q2).1
        exact ⟨k, y, by rw [hn, c2], hk, hk', c3, hy, by omega⟩
/-! ### way -/
inductive Way (m : Map) (D : Nat → Option Nat) : Nat → List Nat → Prop where
  | goal {i : Nat} : D i = some 0 → Way m D i [i]
  | on {i j d : Nat} {l : List Nat} : D i = some (d + 1) → nxt m D i = some j → Way m D j l → Way m D i (i :: l)
theorem way_is {m : Map} {F : Field} {D : Nat → Option Nat} (h : Fix m D) (eF : F = (List.range (m.w * m.h)).map D) : ∀ (k i d : Nat), i < m.w * m.h → D i = some d → rank (m.w * m.h) D d < k → ∃ l, Way m D i l ∧ wayFrom m F k (pl m.w i) = l.map (pl m.w) ∧ l.length ≤ k
  | 0, _, _, _, _, hr => by omega
  | k + 1, i, d, hi, hd, hr => by
    have eD : ∀ j, j < m.w * m.h → F.getD j none = D j := fun j hj => by rw [eF, getD_map_range hj]
    have en : nxt m (fun j => F.getD j none) i = nxt m D i := by
      unfold nxt
      dsimp only
      rw [eD i hi]
      cases D i with
      | none => rfl
      | some d =>
        cases d with
        | zero => rfl
        | succ d =>
          apply find_congr
          intro j hj
          rw [eD j (bes_lt hi hj)]
    cases d with
    | zero =>
      refine ⟨[i], .goal hd, ?_, by simp⟩
      have hn : nxt m D i = none := by unfold nxt; rw [hd] <;> rfl
      show (match Ge07.next m F (pl m.w i) with | none => [pl m.w i] | some q => pl m.w i :: wayFrom m F k q) = _
      rw [next_pl hi, en, hn]
      rfl
    | succ d =>
      obtain ⟨j, x, e1, _, hj, e2, _, hx⟩ := nxt_some h hi hd (Nat.succ_pos _)
      have hrk := rank_lt (d := d + 1) hj e2 hx
      obtain ⟨l, w1, w2, w3⟩ := way_is h eF k j x hj e2 (by omega)
      refine ⟨i :: l, .on hd e1 w1, ?_, Nat.succ_le_succ w3⟩
      show (match Ge07.next m F (pl m.w i) with | none => [pl m.w i] | some q => pl m.w i :: wayFrom m F k q) = _
      rw [next_pl hi, en, e1]
      show pl m.w i :: wayFrom m F k (pl m.w j) = _
      rw [w2]
      rfl
/-- the way told -/
theorem way_told {m : Map} {D : Nat → Option Nat} (hw : 0 < m.w) (h : Fix m D) {i d : Nat} (hi : i < m.w * m.h) (hd : D i = some d) : ∃ l, Way m D i l ∧ Ge07.way m (pl m.w i) = l.map (pl m.w) ∧ l.length ≤ m.w * m.h + 1 :=
  way_is h (field_of_fix hw h) (m.w * m.h + 1) i d hi hd (Nat.lt_succ_of_le (rank_le _ _ _))
theorem Way.head {m : Map} {D : Nat → Option Nat} {i : Nat} {l : List Nat} (h : Way m D i l) : ∃ r, l = i :: r := by
  cases h with
  | goal _ => exact ⟨[], rfl⟩
  | on _ _ _ => exact ⟨_, rfl⟩
end Gf
set_option Elab.async false
/-! The crowd's step by spots: numbers and spots; who comes first; where one goes. -/
namespace Gf
open Ge07
abbrev OneI := Nat × Nat
def toI (w : Nat) (l : List One) : List OneI := l.map fun a => (a.1, ix w a.2)
/-! ### who comes first -/
def befI (D : Nat → Option Nat) (a b : OneI) : Bool := match D a.2, D b.2 with
  | some x, some y => decide (x < y) || (x == y && decide (a.1 < b.1))
  | some _, none => true
  | none, some _ => false
  | none, none => decide (a.1 < b.1)
def insI (D : Nat → Option Nat) (a : OneI) : List OneI → List OneI
  | [] => [a]
  | b :: l => if befI D a b = true then a :: b :: l else b :: insI D a l
def ordI (D : Nat → Option Nat) (l : List OneI) : List OneI := l.foldr (insI D) []
theorem bef_trans {D : Nat → Option Nat} {a b c : OneI} (h1 : befI D a b = true) (h2 : befI D b c = true) : befI D a c = true := by
  unfold befI at *
  cases ea : D a.2 with
  | none =>
    cases eb : D b.2 with
    | some y => rw [ea, eb] at h1; cases h1
    | none =>
      cases ec : D c.2 with
      | some z => rw [eb, ec] at h2; cases h2
      | none =>
        rw [ea, eb] at h1
        rw [eb, ec] at h2
        have k1 := of_decide_eq_true h1
        have k2 := of_decide_eq_true h2
        exact decide_eq_true (by omega)
  | some x =>
    cases ec : D c.2 with
    | none => rfl
    | some z =>
      cases eb : D b.2 with
      | none => rw [eb, ec] at h2; cases h2
      | some y =>
        rw [ea, eb] at h1
        rw [eb, ec] at h2
        simp only [Bool.or_eq_true, Bool.and_eq_true, decide_eq_true_iff, beq_iff_eq] at h1 h2 ⊢
        omega
/-- of two of unlike numbers one comes first -/
theorem bef_or {D : Nat → Option Nat} {a b : OneI} (h : a.1 ≠ b.1) (hn : ¬ befI D a b = true) : befI D b a = true := by
  unfold befI at *
  cases ea : D a.2 with
  | none =>
    cases eb : D b.2 with
    | some y => rfl
    | none =>
      rw [ea, eb] at hn
      simp only [decide_eq_true_iff] at hn ⊢
      omega
  | some x =>
    cases eb : D b.2 with
    | none => rw [ea, eb] at hn; exact absurd rfl hn
    | some y =>
      rw [ea, eb] at hn
      simp only [Bool.or_eq_true, Bool.and_eq_true, decide_eq_true_iff, beq_iff_eq] at hn ⊢
      omega
theorem bef_asymm {D : Nat → Option Nat} {a b : OneI} (h : befI D a b = true) : ¬ befI D b a = true := by
  unfold befI at *
  cases ea : D a.2 with
  | none =>
    cases eb : D b.2 with
    | some y => rw [ea, eb] at h; cases h
    | none =>
      rw [ea, eb] at h
      simp only [decide_eq_true_iff] at h ⊢
      omega
  | some x =>
    cases eb : D b.2 with
    | none => exact fun z => by cases z
    | some y =>
      rw [ea, eb] at h
      simp only [Bool.or_eq_true, Bool.and_eq_true, decide_eq_true_iff, beq_iff_eq] at h ⊢
      omega
theorem ins_perm {D : Nat → Option Nat} {a : OneI} : ∀ l : List OneI, (insI D a l).Perm (a :: l)
  | [] => List.Perm.refl _
  | b :: l => by
    unfold insI
    split
    · exact List.Perm.refl _
    · exact ((ins_perm l).cons b).trans (List.Perm.swap a b l)
theorem ord_perm {D : Nat → Option Nat} : ∀ l : List OneI, (ordI D l).Perm l
  | [] => List.Perm.refl _
  | a :: l => (ins_perm _).trans ((ord_perm l).cons a)
theorem ins_sorted {D : Nat → Option Nat} {a : OneI} : ∀ {l : List OneI}, (∀ b ∈ l, a.1 ≠ b.1) → l.Pairwise (fun x y => befI D x y = true) → (insI D a l).Pairwise fun x y => befI D x y = true
  | [], _, _ => List.pairwise_singleton _ _
  | b :: l, hn, hs => by
    unfold insI
    rw [List.pairwise_cons] at hs
    split
    · rename_i c
      rw [List.pairwise_cons]
      refine ⟨fun x hx => ?_, List.pairwise_cons.mpr hs⟩
      rcases List.mem_cons.mp hx with e | hx
      · rw [e]; exact c
      · exact bef_trans c (hs.1 x hx)
    · rename_i c
      rw [List.pairwise_cons]
      refine ⟨fun x hx => ?_, ins_sorted (fun y hy => hn y (List.mem_cons_of_mem _ hy)) hs.2⟩
      rcases List.mem_cons.mp ((ins_perm l).mem_iff.mp hx) with e | hx
      · rw [e]; exact bef_or (hn b List.mem_cons_self) c
      · exact hs.1 x hx
theorem ord_sorted {D : Nat → Option Nat} : ∀ {l : List OneI}, l.Pairwise (fun a b => a.1 ≠ b.1) → (ordI D l).Pairwise fun x y => befI D x y = true
  | [], _ => List.Pairwise.nil
  | a :: l, h => by
    rw [List.pairwise_cons] at h
    exact ins_sorted (fun b hb => h.1 b ((ord_perm l).mem_iff.mp hb)) (ord_sorted h.2)
/-- whatever stands in that order, the same ones, is the order -/
theorem ord_unique {D : Nat → Option Nat} {l r : List OneI} (hl : l.Pairwise fun a b => a.1 ≠ b.1) (hp : r.Perm l) (hs : r.Pairwise fun x y => befI D x y = true) : r = ordI D l :=
  List.Perm.eq_of_pairwise (le := fun x y => befI D x y = true) (fun _ _ _ _ h1 h2 => absurd h2 (bef_asymm h1)) hs (ord_sorted hl) (hp.trans (ord_perm l).symm)
/-! ### where one goes -/
def nearI (D : Nat → Option Nat) (q s : Nat) : Bool := match D q, D s with
  | some d, some e => decide (d < e)
  | _, _ => false
def freeI (m : Map) (D : Nat → Option Nat) (l : List OneI) (s : Nat) : List Nat := (bes m.w m.h s).filter fun q => !(l.any fun b => b.2 == q) && nearI D q s
def moveI (m : Map) (D : Nat → Option Nat) (l : List OneI) (s : Nat) : Option Nat := (freeI m D l s).find? fun q => D q == least ((freeI m D l s).map D)
def stepI (m : Map) (D : Nat → Option Nat) (l : List OneI) (a : OneI) : List OneI := match moveI m D l a.2 with
  | none => l
  | some q => l.map fun b => if b.1 = a.1 then (b.1, q) else b
def allI (m : Map) (D : Nat → Option Nat) (l : List OneI) : List OneI := (ordI D l).foldl (stepI m D) l
def leftI (D : Nat → Option Nat) (r : List OneI) : List OneI := r.filter fun a => D a.2 != some 0
def goneI (D : Nat → Option Nat) (r : List OneI) : List Nat := (r.filter fun a => D a.2 == some 0).map fun a => a.1
/-- the best of those seen: the first of the least -/
def pick (D : Nat → Option Nat) (best : Option Nat) (q : Nat) : Option Nat := match best with
  | none => some q
  | some b => match D q, D b with
    | some x, some y => if x < y then some q else some b
    | _, _ => some b
theorem find_one {p : Nat → Bool} {q : Nat} (h : p q = true) : [q].find? p = some q := by
  rw [List.find?_cons, h]
theorem pick_fold {D : Nat → Option Nat} : ∀ (l pre : List Nat), (∀ q ∈ pre ++ l, ∃ x, D q = some x) → ∀ best, best = (pre.find? fun q => D q == least (pre.map D)) → l.foldl (pick D) best = ((pre ++ l).find? fun q => D q == least ((pre ++ l).map D))
  | [], pre, _, best, h => by
    rw [List.append_nil]
    exact h
  | q :: l, pre, hD, best, h => by
    have e : pre ++ q :: l = (pre ++ [q]) ++ l := by rw [List.append_assoc]; rfl
    rw [List.foldl_cons, e]
    refine pick_fold l (pre ++ [q]) (fun x hx => hD x (by rw [e]; exact hx)) _ ?_
    obtain ⟨x, hx⟩ := hD q (by simp)
    have lea : least ((pre ++ [q]).map D) = mn (least (pre.map D)) (D q) := by
      rw [least_eq, List.map_append, List.foldl_append]
      rfl
    rw [lea, hx, List.find?_append, h]
    cases c : least (pre.map D) with
    | none =>
      have hpre : pre = [] := by
        cases pre with
        | nil => rfl
        | cons p pre =>
          obtain ⟨y, hy⟩ := hD p (by simp)
          have := least_none c (D p) (by simp)
          rw [hy] at this
          cases this
      subst hpre
      show some q = _
      rw [List.find?_nil, Option.none_or, find_one]
      show (D q == some x) = true
      rw [hx]
      exact beq_self_eq_true _
    | some y =>
      obtain ⟨hy1, hy2⟩ := least_some c
      obtain ⟨b, hb, eb⟩ := List.mem_map.mp hy1
      have hex : ∃ b', (pre.find? fun q => D q == some y) = some b' := by
        cases c2 : pre.find? fun q => D q == some y with
        | some b' => exact ⟨b', rfl⟩
        | none => exact absurd (by rw [eb]; exact beq_self_eq_true _) (List.find?_eq_none.mp c2 b hb)
      obtain ⟨b', hb'⟩ := hex
      have eb' : D b' = some y := by
        have z := List.find?_some hb'
        exact beq_iff_eq.mp z
      rw [hb']
      show (match D q, D b' with | some x, some y => if x < y then some q else some b' | _, _ => some b') = _
      rw [hx, eb']
      show (if x < y then some q else some b') = ((pre.find? fun q => D q == some (min y x)).or ([q].find? fun q => D q == some (min y x)))
      by_cases cxy : x < y
      · rw [if_pos cxy, Nat.min_eq_right (by omega)]
        have hn : (pre.find? fun q => D q == some x) = none := List.find?_eq_none.mpr fun p hp z => by
          have z' : D p = some x := beq_iff_eq.mp z
          have := hy2 x (by rw [← z']; exact List.mem_map.mpr ⟨p, hp, rfl⟩)
          omega
        rw [hn, Option.none_or, find_one]
        show (D q == some x) = true
        rw [hx]
        exact beq_self_eq_true _
      · rw [if_neg cxy, Nat.min_eq_left (by omega), hb']
        rfl
/-- where one goes: the first of the least of the free ones -/
theorem move_fold {m : Map} {D : Nat → Option Nat} {l : List OneI} {s : Nat} : moveI m D l s = (freeI m D l s).foldl (pick D) none := by
  symm
  refine pick_fold (freeI m D l s) [] (fun q hq => ?_) none rfl
  have z := (List.mem_filter.mp hq).2
  rw [Bool.and_eq_true] at z
  have z2 := z.2
  unfold nearI at z2
  cases c : D q with
  | none => rw [c] at z2; cases z2
  | some x => exact ⟨x, rfl⟩
/-! ### the specification's step -/
section
variable {m : Map} {given : Nat} {F : Field} {D : Nat → Option Nat}
theorem ix_inj {p q : Place} (hp : inside m p = true) (hq : inside m q = true) (e : ix m.w p = ix m.w q) : p = q := by
  rw [← pl_ix (inside_iff.mp hp).1, e, pl_ix (inside_iff.mp hq).1]
theorem at_D (eF : F = (List.range (m.w * m.h)).map D) {p : Place} (hp : inside m p = true) : at_ m F p = D (ix m.w p) := by
  obtain ⟨h1, h2⟩ := inside_iff.mp hp
  unfold at_
  rw [if_pos hp, eF]
  exact getD_map_range (ix_lt h1 h2)
theorem before_I (eF : F = (List.range (m.w * m.h)).map D) {a b : One} (ha : inside m a.2 = true) (hb : inside m b.2 = true) : before m F a b = befI D (a.1, ix m.w a.2) (b.1, ix m.w b.2) := by
  unfold before befI
  rw [at_D eF ha, at_D eF hb]
  cases D (ix m.w a.2) <;> cases D (ix m.w b.2) <;> rfl
theorem insert_I (eF : F = (List.range (m.w * m.h)).map D) {a : One} (ha : inside m a.2 = true) : ∀ {l : List One}, (∀ b ∈ l, inside m b.2 = true) → toI m.w (insertOne m F a l) = insI D (a.1, ix m.w a.2) (toI m.w l)
  | [], _ => rfl
  | b :: l, h => by
    show toI m.w (if before m F a b = true then a :: b :: l else b :: insertOne m F a l) = (if befI D (a.1, ix m.w a.2) (b.1, ix m.w b.2) = true then _ else _)
    rw [before_I eF ha (h b List.mem_cons_self)]
    split
    · rfl
    · show (b.1, ix m.w b.2) :: toI m.w (insertOne m F a l) = _
      rw [insert_I eF ha fun c hc => h c (List.mem_cons_of_mem _ hc)]
      rfl
theorem order_I (eF : F = (List.range (m.w * m.h)).map D) : ∀ {l : List One}, (∀ b ∈ l, inside m b.2 = true) → toI m.w (l.foldr (insertOne m F) []) = ordI D (toI m.w l)
  | [], _ => rfl
  | a :: l, h => by
    show toI m.w (insertOne m F a (l.foldr (insertOne m F) [])) = insI D (a.1, ix m.w a.2) (ordI D (toI m.w l))
    rw [insert_I eF (h a List.mem_cons_self) (fun b hb => h b (List.mem_cons_of_mem _ (order_mem hb))), order_I eF fun b hb => h b (List.mem_cons_of_mem _ hb)]
theorem any_I {l : List One} {q : Place} (hl : ∀ b ∈ l, inside m b.2 = true) (hq : inside m q = true) : (l.any fun b => b.2 == q) = (toI m.w l).any fun b => b.2 == ix m.w q := by
  unfold toI
  rw [List.any_map]
  induction l with
  | nil => rfl
  | cons a l ih =>
    rw [List.any_cons, List.any_cons, ih fun b hb => hl b (List.mem_cons_of_mem _ hb)]
    congr 1
    show (a.2 == q) = (ix m.w a.2 == ix m.w q)
    by_cases e : a.2 = q
    · rw [e, beq_self_eq_true, beq_self_eq_true]
    · rw [beq_eq_false_iff_ne.mpr e]
      symm
      exact beq_eq_false_iff_ne.mpr fun z => e (ix_inj (hl a List.mem_cons_self) hq z)
/-- one goes -/
theorem step_I (eF : F = (List.range (m.w * m.h)).map D) {l : List One} {a : One} (hl : ∀ b ∈ l, inside m b.2 = true) (ha : inside m a.2 = true) : toI m.w (stepOne m F l a) = stepI m D (toI m.w l) (a.1, ix m.w a.2) := by
  obtain ⟨h1, h2⟩ := inside_iff.mp ha
  have hi := ix_lt (w := m.w) (h := m.h) h1 h2
  have eb : beside m a.2 = (bes m.w m.h (ix m.w a.2)).map (pl m.w) := by
    have z := beside_pl (m := m) hi
    rw [pl_ix h1] at z
    exact z
  have hfree : ((beside m a.2).filter fun q => !(l.any fun b => b.2 == q) && match at_ m F q, at_ m F a.2 with | some d, some e => decide (d < e) | _, _ => false) = (freeI m D (toI m.w l) (ix m.w a.2)).map (pl m.w) := by
    rw [eb, List.filter_map]
    unfold freeI
    congr 1
    apply List.filter_congr
    intro j hj
    have hj' := bes_lt hi hj
    have hin := pl_inside (m := m) hj'
    show (!(l.any fun b => b.2 == pl m.w j) && match at_ m F (pl m.w j), at_ m F a.2 with | some d, some e => decide (d < e) | _, _ => false) = _
    rw [any_I hl hin, at_D eF hin, at_D eF ha, ix_pl]
    rfl
  have hmap : ((freeI m D (toI m.w l) (ix m.w a.2)).map (pl m.w)).map (fun q => at_ m F q) = (freeI m D (toI m.w l) (ix m.w a.2)).map D := by
    rw [List.map_map]
    apply List.map_congr_left
    intro j hj
    have hj' := bes_lt hi (List.mem_filter.mp hj).1
    show at_ m F (pl m.w j) = D j
    rw [at_D eF (pl_inside hj'), ix_pl]
  have hfind : (((freeI m D (toI m.w l) (ix m.w a.2)).map (pl m.w)).find? fun q => at_ m F q == least ((freeI m D (toI m.w l) (ix m.w a.2)).map D)) = (moveI m D (toI m.w l) (ix m.w a.2)).map (pl m.w) := by
    rw [find_map]
    unfold moveI
    congr 1
    apply find_congr
    intro j hj
    have hj' := bes_lt hi (List.mem_filter.mp hj).1
    rw [at_D eF (pl_inside hj'), ix_pl]
  have est : stepOne m F l a = (match (((beside m a.2).filter fun q => !(l.any fun b => b.2 == q) && match at_ m F q, at_ m F a.2 with | some d, some e => decide (d < e) | _, _ => false).find? fun q => at_ m F q == least (((beside m a.2).filter fun q => !(l.any fun b => b.2 == q) && match at_ m F q, at_ m F a.2 with | some d, some e => decide (d < e) | _, _ => false).map fun q => at_ m F q)) with
    | none => l
    | some q => l.map fun b => if b.1 = a.1 then (b.1, q) else b) := rfl
  rw [est, hfree, hmap, hfind]
  unfold stepI
  dsimp only
  cases c : moveI m D (toI m.w l) (ix m.w a.2) with
  | none => rfl
  | some q =>
    show toI m.w (l.map fun b => if b.1 = a.1 then (b.1, pl m.w q) else b) = (toI m.w l).map fun b => if b.1 = a.1 then (b.1, q) else b
    unfold toI
    rw [List.map_map, List.map_map]
    apply List.map_congr_left
    intro b _
    show ((if b.1 = a.1 then (b.1, pl m.w q) else b).1, ix m.w (if b.1 = a.1 then (b.1, pl m.w q) else b).2) = if b.1 = a.1 then (b.1, q) else (b.1, ix m.w b.2)
    split
    · show (b.1, ix m.w (pl m.w q)) = _
      rw [ix_pl]
    · rfl
theorem steps_I (eF : F = (List.range (m.w * m.h)).map D) : ∀ (o l : List One), (∀ a ∈ o, inside m a.2 = true) → CrowdOk m given l → toI m.w (o.foldl (fun l a => stepOne m F l a) l) = (toI m.w o).foldl (stepI m D) (toI m.w l)
  | [], _, _, _ => rfl
  | a :: o, l, ho, h => by
    have h1 := (stepOne_ok (f := F) h (ho a List.mem_cons_self)).1
    show toI m.w (o.foldl (fun l a => stepOne m F l a) (stepOne m F l a)) = (toI m.w o).foldl (stepI m D) (stepI m D (toI m.w l) (a.1, ix m.w a.2))
    rw [steps_I eF o _ (fun b hb => ho b (List.mem_cons_of_mem _ hb)) h1, step_I eF h.ins (ho a List.mem_cons_self)]
theorem toI_filter {l : List One} {p : One → Bool} {p' : OneI → Bool} (h : ∀ a ∈ l, p a = p' (a.1, ix m.w a.2)) : toI m.w (l.filter p) = (toI m.w l).filter p' := by
  unfold toI
  rw [List.filter_map]
  congr 1
  exact List.filter_congr h
/-- all go a step -/
theorem crowd_I (eF : F = (List.range (m.w * m.h)).map D) {l : List One} (h : CrowdOk m given l) : toI m.w (crowdStep m F l).1 = leftI D (allI m D (toI m.w l)) ∧ (crowdStep m F l).2 = goneI D (allI m D (toI m.w l)) := by
  have hr := steps_ok (f := F) (l.foldr (insertOne m F) []) l (fun a ha => h.ins a (order_mem ha)) h
  have er := steps_I (given := given) eF (l.foldr (insertOne m F) []) l (fun a ha => h.ins a (order_mem ha)) h
  rw [order_I eF h.ins] at er
  constructor
  · show toI m.w (((l.foldr (insertOne m F) []).foldl (fun l a => stepOne m F l a) l).filter fun a => at_ m F a.2 != some 0) = _
    rw [toI_filter (p' := fun a => D a.2 != some 0) (fun a ha => by rw [at_D eF (hr.1.ins a ha)]), er]
    rfl
  · show ((((l.foldr (insertOne m F) []).foldl (fun l a => stepOne m F l a) l).filter fun a => at_ m F a.2 == some 0).map fun a => a.1) = _
    have z := toI_filter (m := m) (l := (l.foldr (insertOne m F) []).foldl (fun l a => stepOne m F l a) l) (p := fun a => at_ m F a.2 == some 0) (p' := fun a => D a.2 == some 0) (fun a ha => by rw [at_D eF (hr.1.ins a ha)])
    rw [er] at z
    unfold goneI allI
    rw [← z]
    unfold toI
    rw [List.map_map]
    rfl
/-! ### go: k steps from the s-th on -/
def goI (m : Map) (D : Nat → Option Nat) : Nat → Nat → List OneI → List OneI × List (Nat × Nat)
  | 0, _, l => (l, [])
  | k + 1, s, l => ((goI m D k (s + 1) (leftI D (allI m D l))).1, (goneI D (allI m D l)).map (fun n => (s, n)) ++ (goI m D k (s + 1) (leftI D (allI m D l))).2)
theorem go_I (eF : F = (List.range (m.w * m.h)).map D) : ∀ (k s : Nat) {l : List One}, CrowdOk m given l →
    toI m.w (goSteps k m F l).1 = (goI m D k (s + 1) (toI m.w l)).1 ∧ (goSteps k m F l).2.map (fun x => (k + s - x.1, x.2)) = (goI m D k (s + 1) (toI m.w l)).2
  | 0, _, _, _ => ⟨rfl, rfl⟩
  | k + 1, s, l, h => by
    obtain ⟨c1, c2⟩ := crowd_I eF h
    obtain ⟨i1, i2⟩ := go_I eF k (s + 1) (crowdStep_ok (f := F) h)
    rw [c1] at i1 i2
    refine ⟨i1, ?_⟩
    show (((crowdStep m F l).2.map fun n => (k, n)) ++ (goSteps k m F (crowdStep m F l).1).2).map (fun x => (k + 1 + s - x.1, x.2)) = (goneI D (allI m D (toI m.w l))).map (fun n => (s + 1, n)) ++ _
    rw [List.map_append, c2, List.map_map]
    congr 1
    · apply List.map_congr_left
      intro n _
      show (k + 1 + s - k, n) = (s + 1, n)
      congr 1
      omega
    · rw [← i2]
      apply List.map_congr_left
      intro x _
      show (k + 1 + s - x.1, x.2) = (k + (s + 1) - x.1, x.2)
      congr 1
      omega
/-- one more step behind: the loop as it runs -/
theorem go_snoc (m : Map) (D : Nat → Option Nat) : ∀ (k s : Nat) (l : List OneI), goI m D (k + 1) s l = (leftI D (allI m D (goI m D k s l).1), (goI m D k s l).2 ++ (goneI D (allI m D (goI m D k s l).1)).map fun n => (s + k, n))
  | 0, s, l => by
    show (leftI D (allI m D l), (goneI D (allI m D l)).map (fun n => (s, n)) ++ []) = (leftI D (allI m D l), [] ++ (goneI D (allI m D l)).map fun n => (s + 0, n))
    rw [List.append_nil, List.nil_append]
    rfl
  | k + 1, s, l => by
    have ih := go_snoc m D k (s + 1) (leftI D (allI m D l))
    show ((goI m D (k + 1) (s + 1) (leftI D (allI m D l))).1, (goneI D (allI m D l)).map (fun n => (s, n)) ++ (goI m D (k + 1) (s + 1) (leftI D (allI m D l))).2) = _
    rw [ih]
    show (_, _ ++ (_ ++ _)) = (leftI D (allI m D (goI m D k (s + 1) (leftI D (allI m D l))).1), ((goneI D (allI m D l)).map (fun n => (s, n)) ++ (goI m D k (s + 1) (leftI D (allI m D l))).2) ++ _)
    rw [List.append_assoc, show s + 1 + k = s + (k + 1) by omega]
    rfl
/-! ### changed -/
theorem changed_I (hw : 0 < m.w) {F' : Field} {D' : Nat → Option Nat} (eF : F = (List.range (m.w * m.h)).map D) (eF' : F' = (List.range (m.w * m.h)).map D') :
    (places m).filter (fun q => at_ m F q != at_ m F' q) = ((List.range (m.w * m.h)).filter fun i => D i != D' i).map (pl m.w) := by
  rw [places_eq hw, List.filter_map]
  congr 1
  apply List.filter_congr
  intro i hi
  have hin := pl_inside (m := m) (List.mem_range.mp hi)
  show (at_ m F (pl m.w i) != at_ m F' (pl m.w i)) = _
  rw [at_D eF hin, at_D eF' hin, ix_pl]
end
end Gf
set_option Elab.async false
set_option linter.all false
/-! The crowd's step as the program goes through it: the near ones in their order, each one's turn, those at goals leave. -/
namespace Gf
open Ge07
section
variable {m : Map} {D : Nat → Option Nat}
/-- the first of the least -/
theorem move_first {fr : List Nat} {i q dq : Nat} (hq : fr[i]? = some q) (hd : D q = some dq) (h : ∀ k n x, fr[k]? = some n → D n = some x → dq ≤ x ∧ (k < i → dq < x)) : (fr.find? fun x => D x == least (fr.map D)) = some q := by
  have hl : least (fr.map D) = some dq := by
    refine least_of (List.mem_map.mpr ⟨q, List.mem_of_getElem? hq, hd⟩) fun e he => ?_
    obtain ⟨n, hn, en⟩ := List.mem_map.mp he
    obtain ⟨k, hk⟩ := List.mem_iff_getElem?.mp hn
    exact (h k n e hk en).1
  rw [hl]
  rw [List.find?_eq_some_iff_getElem]
  obtain ⟨hi, ei⟩ := List.getElem?_eq_some_iff.mp hq
  refine ⟨by rw [hd]; exact beq_self_eq_true _, i, hi, ei, fun j hj => ?_⟩
  rw [Bool.not_eq_true']
  refine beq_eq_false_iff_ne.mpr fun z => ?_
  have := (h j fr[j] dq (List.getElem?_eq_getElem (by omega)) z).2 hj
  omega
def nearL (D : Nat → Option Nat) (l : List OneI) : List OneI := l.filter fun a => (D a.2).isSome
def farL (D : Nat → Option Nat) (l : List OneI) : List OneI := l.filter fun a => !(D a.2).isSome
theorem near_far (D : Nat → Option Nat) : ∀ l : List OneI, (nearL D l ++ farL D l).Perm l
  | [] => List.Perm.refl _
  | a :: l => by
    have ih := near_far D l
    unfold nearL farL at ih ⊢
    cases c : (D a.2).isSome with
    | true =>
      rw [List.filter_cons_of_pos (by exact c), List.filter_cons_of_neg (by rw [c]; decide)]
      exact ih.cons a
    | false =>
      rw [List.filter_cons_of_neg (by rw [c]; decide), List.filter_cons_of_pos (by rw [c]; decide)]
      exact List.perm_middle.trans (ih.cons a)
abbrev Dist (l : List OneI) : Prop := l.Pairwise fun a b => a.1 ≠ b.1
theorem Dist.filter {l : List OneI} (h : Dist l) (p : OneI → Bool) : Dist (l.filter p) := List.Pairwise.sublist List.filter_sublist h
theorem ord_near {l : List OneI} (hl : Dist l) : ordI D l = ordI D (nearL D l) ++ ordI D (farL D l) := by
  symm
  have hn : Dist (nearL D l) := hl.filter _
  have hf : Dist (farL D l) := hl.filter _
  refine ord_unique hl (((ord_perm _).append (ord_perm _)).trans (near_far D l)) ?_
  rw [List.pairwise_append]
  refine ⟨ord_sorted hn, ord_sorted hf, fun a ha b hb => ?_⟩
  have h1 := (List.mem_filter.mp ((ord_perm _).mem_iff.mp ha)).2
  have h2 := (List.mem_filter.mp ((ord_perm _).mem_iff.mp hb)).2
  unfold befI
  cases ea : D a.2 with
  | none => rw [ea] at h1; cases h1
  | some x =>
    cases eb : D b.2 with
    | none => rfl
    | some y => rw [eb] at h2; cases h2
theorem step_far {l : List OneI} {a : OneI} (h : D a.2 = none) : stepI m D l a = l := by
  have hf : freeI m D l a.2 = [] := by
    unfold freeI
    rw [List.filter_eq_nil_iff]
    intro q _ z
    rw [Bool.and_eq_true] at z
    have z2 := z.2
    unfold nearI at z2
    rw [h] at z2
    cases c : D q <;> rw [c] at z2 <;> cases z2
  unfold stepI moveI
  rw [hf]
  rfl
theorem steps_far : ∀ (o l : List OneI), (∀ a ∈ o, D a.2 = none) → o.foldl (stepI m D) l = l
  | [], _, _ => rfl
  | a :: o, l, h => by
    rw [List.foldl_cons, step_far (h a List.mem_cons_self)]
    exact steps_far o l fun b hb => h b (List.mem_cons_of_mem _ hb)
theorem all_near {l : List OneI} (hl : Dist l) : allI m D l = (ordI D (nearL D l)).foldl (stepI m D) l := by
  unfold allI
  rw [ord_near hl, List.foldl_append]
  refine steps_far _ _ fun a ha => ?_
  have h := (List.mem_filter.mp ((ord_perm _).mem_iff.mp ha)).2
  cases c : D a.2 with
  | none => rfl
  | some x => rw [c] at h; cases h
/-! ### one turn -/
def putI (l : List OneI) (n q : Nat) : List OneI := l.map fun b => if b.1 = n then (b.1, q) else b
def goesI (m : Map) (D : Nat → Option Nat) (l : List OneI) (s : Nat) : Nat := (moveI m D l s).getD s
theorem one_of {l : List OneI} (hl : Dist l) {a b : OneI} (ha : a ∈ l) (hb : b ∈ l) (e : a.1 = b.1) : a = b := by
  by_cases c : a = b
  · exact c
  · have hs : ∀ {l : List OneI}, Dist l → ∀ a ∈ l, ∀ b ∈ l, a.1 = b.1 → a = b := by
      intro l
      induction l with
      | nil => intro _ a h; cases h
      | cons x l ih =>
        intro h a ha b hb e
        have h := List.pairwise_cons.mp h
        rcases List.mem_cons.mp ha with ha | ha
        · rcases List.mem_cons.mp hb with hb | hb
          · rw [ha, hb]
          · exact absurd (ha ▸ e) (h.1 b hb)
        · rcases List.mem_cons.mp hb with hb | hb
          · exact absurd (hb ▸ e.symm) (h.1 a ha)
          · exact ih h.2 a ha b hb e
    exact hs hl a ha b hb e
theorem step_put {l : List OneI} (hl : Dist l) {a : OneI} (ha : a ∈ l) : stepI m D l a = putI l a.1 (goesI m D l a.2) := by
  unfold stepI goesI
  cases c : moveI m D l a.2 with
  | some q => rfl
  | none =>
    show l = putI l a.1 a.2
    symm
    unfold putI
    have e : ∀ b ∈ l, (fun b : OneI => if b.1 = a.1 then (b.1, a.2) else b) b = id b := fun b hb => by
      by_cases z : b.1 = a.1
      · have := one_of hl hb ha z
        show (if b.1 = a.1 then (b.1, a.2) else b) = b
        rw [if_pos z, this]
      · exact if_neg z
    rw [List.map_congr_left e, List.map_id]
theorem put_fst (l : List OneI) (n q : Nat) : (putI l n q).map (·.1) = l.map (·.1) := by
  unfold putI
  rw [List.map_map]
  apply List.map_congr_left
  intro b _
  show (if b.1 = n then (b.1, q) else b).1 = b.1
  split <;> rfl
theorem step_fst (l : List OneI) (a : OneI) : (stepI m D l a).map (·.1) = l.map (·.1) := by
  unfold stepI
  split
  · rfl
  · exact put_fst l a.1 _
theorem dist_iff {l : List OneI} : Dist l ↔ (l.map (·.1)).Pairwise (· ≠ ·) := by
  unfold Dist
  rw [List.pairwise_map]
theorem steps_fst : ∀ (o l : List OneI), (o.foldl (stepI m D) l).map (·.1) = l.map (·.1)
  | [], _ => rfl
  | a :: o, l => by
    rw [List.foldl_cons, steps_fst o, step_fst]
theorem step_stays {l : List OneI} {a b : OneI} (hb : b ∈ l) (n : b.1 ≠ a.1) : b ∈ stepI m D l a := by
  unfold stepI
  split
  · exact hb
  · exact List.mem_map.mpr ⟨b, hb, if_neg n⟩
theorem steps_stay : ∀ (o l : List OneI) {b : OneI}, b ∈ l → (∀ a ∈ o, b.1 ≠ a.1) → b ∈ o.foldl (stepI m D) l
  | [], _, _, h, _ => h
  | a :: o, l, b, h, n => steps_stay o _ (step_stays h (n a List.mem_cons_self)) fun c hc => n c (List.mem_cons_of_mem _ hc)
/-- all on the map -/
def OnI (m : Map) (l : List OneI) : Prop := ∀ a ∈ l, a.2 < m.w * m.h
theorem step_on {l : List OneI} {a : OneI} (h : OnI m l) (ha : a.2 < m.w * m.h) : OnI m (stepI m D l a) := by
  unfold stepI
  split
  · exact h
  · rename_i q hq
    have hq2 := bes_lt ha (List.mem_filter.mp (List.mem_of_find?_eq_some hq)).1
    intro b hb
    obtain ⟨c, hc, e⟩ := List.mem_map.mp hb
    rw [← e]
    split
    · exact hq2
    · exact h c hc
theorem steps_on : ∀ (o l : List OneI), (∀ a ∈ o, a.2 < m.w * m.h) → OnI m l → OnI m (o.foldl (stepI m D) l)
  | [], _, _, h => h
  | a :: o, l, ho, h => steps_on o _ (fun b hb => ho b (List.mem_cons_of_mem _ hb)) (step_on h (ho a List.mem_cons_self))
/-- what holds ahead of the i-th turn -/
theorem turn_at {l o : List OneI} (hl : Dist l) (hp : ∀ a ∈ o, a ∈ l) (ho : Dist o) {i : Nat} {a : OneI} (hi : o[i]? = some a) :
    Dist ((o.take i).foldl (stepI m D) l) ∧ a ∈ (o.take i).foldl (stepI m D) l ∧ (o.take (i + 1)).foldl (stepI m D) l = putI ((o.take i).foldl (stepI m D) l) a.1 (goesI m D ((o.take i).foldl (stepI m D) l) a.2) := by
  have d1 : Dist ((o.take i).foldl (stepI m D) l) := by
    rw [dist_iff, steps_fst, ← dist_iff]
    exact hl
  have hlt := (List.getElem?_eq_some_iff.mp hi).1
  have e : o.take (i + 1) = o.take i ++ [a] := by
    rw [List.take_add_one, hi]
    rfl
  have m1 : a ∈ (o.take i).foldl (stepI m D) l := by
    refine steps_stay _ _ (hp a (List.mem_of_getElem? hi)) fun b hb => ?_
    obtain ⟨j, hj, ej⟩ := List.mem_iff_getElem.mp hb
    rw [List.length_take] at hj
    rw [List.getElem_take] at ej
    have := (List.pairwise_iff_getElem.mp ho) j i (by omega) hlt (by omega)
    rw [ej] at this
    obtain ⟨_, ea⟩ := List.getElem?_eq_some_iff.mp hi
    rw [ea] at this
    exact fun z => this z.symm
  refine ⟨d1, m1, ?_⟩
  rw [e, List.foldl_append]
  exact step_put d1 m1
/-! ### those at goals leave -/
theorem left_is {r : List OneI} (h : Dist r) : (r.filter fun a => !((goneI D r).contains a.1)) = leftI D r := by
  unfold leftI
  apply List.filter_congr
  intro a ha
  have key : a.1 ∈ goneI D r ↔ D a.2 = some 0 := by
    unfold goneI
    constructor
    · intro z
      obtain ⟨b, hb, e⟩ := List.mem_map.mp z
      obtain ⟨hb1, hb2⟩ := List.mem_filter.mp hb
      rw [← one_of h hb1 ha e]
      exact beq_iff_eq.mp hb2
    · intro z
      exact List.mem_map.mpr ⟨a, List.mem_filter.mpr ⟨ha, by rw [z]; exact beq_self_eq_true _⟩, rfl⟩
  by_cases c : D a.2 = some 0
  · rw [c, List.contains_iff_mem.mpr (key.mpr c)]
    rfl
  · have c2 : (goneI D r).contains a.1 = false := by
      cases z : (goneI D r).contains a.1 with
      | false => rfl
      | true => exact absurd (key.mp (List.contains_iff_mem.mp z)) c
    rw [c2]
    symm
    exact bne_iff_ne.mpr c
theorem left_len (r : List OneI) : (leftI D r).length ≤ r.length := List.length_filter_le _ _
theorem gone_len (r : List OneI) : (goneI D r).length ≤ r.length := by
  unfold goneI
  rw [List.length_map]
  exact List.length_filter_le _ _
theorem all_len (l : List OneI) : (allI m D l).length = l.length := by
  have e := congrArg List.length (steps_fst (m := m) (D := D) (ordI D l) l)
  rw [List.length_map, List.length_map] at e
  exact e
/-! ### the order by a sort -/
theorem sort_ord {l r : List OneI} (hl : Dist l) (hs : ∀ a ∈ l, (D a.2).isSome = true) (hp : r.Perm l) (ho : r.Pairwise fun a b => (D a.2).getD 0 < (D b.2).getD 0 ∨ ((D a.2).getD 0 = (D b.2).getD 0 ∧ a.1 ≤ b.1)) : r = ordI D l := by
  refine ord_unique hl hp ?_
  have hr : Dist r := by
    unfold Dist
    exact (hp.pairwise_iff (fun {a b} h e => h e.symm)).mpr hl
  have both := List.Pairwise.and ho hr
  refine List.Pairwise.imp_of_mem (fun {a b} ha hb h => ?_) both
  have sa := hs a (hp.mem_iff.mp ha)
  have sb := hs b (hp.mem_iff.mp hb)
  unfold befI
  cases ea : D a.2 with
  | none => rw [ea] at sa <;> cases sa
  | some x =>
    cases eb : D b.2 with
    | none => rw [eb] at sb <;> cases sb
    | some y =>
      obtain ⟨h1, h2⟩ := h
      rw [ea, eb] at h1
      have h1' : x < y ∨ (x = y ∧ a.1 ≤ b.1) := h1
      simp only [Bool.or_eq_true, Bool.and_eq_true, decide_eq_true_iff, beq_iff_eq]
      omega
end
end Gf
set_option Elab.async false
set_option linter.all false
set_option maxRecDepth 100000
set_option maxHeartbeats 2000000
namespace Gf
open PySem PySem.Spec PyProof.Rows L2 LamX NdefX
/-! ### objects of the machine's own (an iterator, a scratch list): not tracked, made since the entry -/
section
variable {X : Cx} {pins : List (Addr × Obj)} {σ : L2.St} {H : Hp} {s : Shared}
structure Ours (X : Cx) (pins : List (Addr × Obj)) (H : Hp) (b : Addr) : Prop where
  free : H b = none
  new : X.s_0.heap.objs.size ≤ b
  loc : b ≠ X.env.locals
  cell : ∀ x c, X.env.cells.lookup x = some c → c ≠ b
  pin : ∀ p ∈ X.pn ++ pins, p.1 ≠ b
  fs : b ∉ X.fs
theorem ours_new (I : Inv X pins σ H s) {b : Addr} (hb : s.heap.objs.size ≤ b) : Ours X pins H b where
  free := I.hok.fresh hb
  new := Nat.le_trans I.sz hb
  loc := fun e => by
    have z := I.lt
    rw [← e] at z
    exact Nat.lt_irrefl _ (Nat.lt_of_lt_of_le z hb)
  cell := fun x c e z => by
    obtain ⟨v, o, ho, _⟩ := I.cell x c e
    rw [z] at ho
    exact Nat.lt_irrefl _ (Nat.lt_of_lt_of_le (Heap.lt_size ho) hb)
  pin := fun p hp z => by
    have ho := (I.pin p hp).1
    rw [z] at ho
    exact Nat.lt_irrefl _ (Nat.lt_of_lt_of_le (Heap.lt_size ho) hb)
  fs := I.nofs hb
theorem inv_touch {b : Addr} {h' : Heap} {t' : Nat} (I : Inv X pins σ H s) (O : Ours X pins H b) (k : ∀ c o, c ≠ b → s.heap.get? c = some o → h'.get? c = some o) :
    Inv X pins σ H { s with heap := h', toks := t' } := by
  have nb : ∀ c, c ∉ [b] → c ≠ b := fun c hc e => hc (List.mem_singleton.mpr e)
  have hok : HOk X.prog X.w H h' := fun a o e => (I.hok a o e).stay (fun c u hc q => k c u (fun z => by
    rcases hc with r | r
    · rw [← r, z, O.free] at e
      cases e
    · rw [z, O.free] at r
      cases r) q) (fun _ q => q) fun _ _ q => q
  refine I.call (ch := [b]) ⟨fun c o q _ _ hx => k c o (nb c hx) q, fun c o q _ _ hx => ⟨o.slots, k c o (nb c hx) q⟩, fun _ _ _ n _ => n, fun c o q hx => ⟨o, k c o (nb c hx) q⟩, fun _ _ q => q, fun _ _ _ q => q, fun _ ps q => ⟨#[], by rw [q, Array.append_empty]⟩⟩ hok I.bare fun c hc => ?_
  obtain rfl := List.mem_singleton.mp hc
  exact ⟨.inr O.new, O.loc, O.cell, O.pin⟩
end
/-! ### min(d, key=f) over a locked dict with int keys -/
section
variable {X : Cx} {pins : List (Addr × Obj)} {σ : L2.St} {H : Hp}
/-- what the key function does with one item -/
def KeyTurn (X : Cx) (σ : L2.St) (H : Hp) (f : Addr) (fo : Obj) (is : List Int) (g : Int → Int) : Prop :=
  ∀ (pins' : List (Addr × Obj)) (s' : Shared) (n : Int) (t : Tok), n ∈ is → (f, fo) ∈ pins' → Inv X pins' σ H s' →
    wpAny (model X.prog X.w) X.A.in1 (call (.ref f) [.int n t]) (fun x s'' => ∃ t', x = .int (g n) t' ∧ Inv X pins' σ H s'') (fun _ _ => False) s'
/-- the best so far: none, or an item and its key -/
def BestAt (is : List Int) (g : Int → Int) (j : Nat) (old : List Value) : Prop :=
  (old = [] ∧ j = 0) ∨ ∃ (m : Int) (t t' : Tok), old = [.int m t, .int (g m) t'] ∧ m ∈ is ∧ ∀ i, i < j → ∀ n, is[i]? = some n → g m ≤ g n
theorem min_loop {a f I0 S : Addr} {od fo : Obj} {kvs : List (Key × V)} {vs : List (Key × Value)} {ep : Nat} {is : List Int} {g : Int → Int} {R : Result → Shared → Prop}
    (hh : X.A.handled = none) (ha : H a = some (.frz od (.dK kvs))) (hks : vs.map (·.1) = is.map Sum.inl) (hdat : ∀ h : Heap, h.get? a = some od → h.DictAt (mixKind X.prog X.w) a vs ep) (hpos : 0 < is.length)
    (OI : Ours X pins H I0) (OS : Ours X pins H S) (hIS : I0 ≠ S) (haI : a ≠ I0) (hfp : (f, fo) ∈ pins)
    (turn : KeyTurn X σ H f fo is g) (hR : ∀ m t s', m ∈ is → (∀ n ∈ is, g m ≤ g n) → Inv X pins σ H s' → R (.ok (.ret (.int m t))) s') :
    ∀ (r j : Nat) (s' : Shared) (old : List Value) (c : Nat), is.length - j = r → j ≤ is.length → Inv X pins σ H s' → s'.heap.get? S = some (seqObj "list" old.toArray c) → s'.heap.IsKeyIter I0 a j vs.length ep → BestAt is g j old →
      codeAny (model X.prog X.w) X.A (.builtin "min.loop" ⟨[.ref I0, .ref f, .ref S], []⟩) R s' := by
  have loopName : (toString "min" ++ toString ".loop" : String) = "min.loop" := by decide
  have W := Walks.dictKeys (knd := mixKind X.prog X.w) (A := X.A.in1) hh I0 a haI vs ep
  have hlen : vs.length = is.length := by
    have e1 := congrArg List.length hks
    rw [List.length_map, List.length_map] at e1
    exact e1
  have hval : ∀ (i : Nat) (v : Value), (∃ k x, vs[i]? = some (k, x) ∧ (mixKind X.prog X.w).is k v = true) → ∃ n t, is[i]? = some n ∧ v = Value.int n t := fun i v ⟨k, x, hk, hkey⟩ => by
    have e1 : (vs.map (·.1))[i]? = some k := (by rw [List.getElem?_map, hk] <;> rfl)
    rw [hks, List.getElem?_map] at e1
    obtain ⟨n, hn, e2⟩ := Option.map_eq_some_iff.mp e1
    subst e2
    have hi : Value.isInt n v = true := hkey
    obtain ⟨t, e3⟩ := Value.isInt_shape (k := n) (v := v) hi
    exact ⟨n, t, hn, e3⟩
  have hda : ∀ {s' : Shared} {pins' : List (Addr × Obj)}, Inv X pins' σ H s' → s'.heap.get? a = some od := fun I => (I.hok a _ ha).1
  have pin3 : ∀ {s' : Shared} {oI oS : Obj}, Inv X pins σ H s' → s'.heap.get? I0 = some oI → s'.heap.get? S = some oS → (∀ v, oI.data ≠ .cell v) → (∀ v, oS.data ≠ .cell v) → Inv X (pins ++ [(I0, oI), (S, oS)]) σ H s' := fun {s' oI oS} I h1 h2 n1 n2 => I.pins_of fun p hp => by
    rcases List.mem_append.mp hp with z | z
    · exact I.pin p (List.mem_append_right _ z)
    · rcases List.mem_cons.mp z with z | z
      · rw [z]
        exact ⟨h1, OI.free, OI.loc, OI.fs, n1⟩
      · rw [List.mem_singleton.mp z]
        exact ⟨h2, OS.free, OS.loc, OS.fs, n2⟩
  have unpin : ∀ {s' : Shared} {pl : List (Addr × Obj)}, Inv X (pins ++ pl) σ H s' → Inv X pins σ H s' := fun I => I.unpinned
  intro r
  induction r with
  | zero =>
    intro j s' old c hr hj I hS hit hb
    have hjn : j = is.length := by omega
    subst hjn
    refine codeAny_builtin (A := X.A) PySem.F.entry_min_loop ?_
    rw [Around.under_plainId (A := X.A) PySem.F.plain_min_loop _]
    show wpAny _ X.A.in1 (seqItems? (.ref S) >>= _) _ _ _
    refine wpAny_bind (wpAny_seqItems (o := seqObj "list" old.toArray c) hS rfl ?_)
    show wpAny _ X.A.in1 (tryCatch (pyNext (.ref I0)) _ >>= _) _ _ _
    refine wpAny_bind (wpAny_tryCatch (W.done _ _ _ ⟨by rw [hlen] at hit ⊢; exact hit, hdat _ (hda I)⟩ fun h' tk' hk' => ?_))
    have I1 : Inv X pins σ H { s' with heap := h', toks := tk' } := inv_touch I OI fun b o hb e => hk' b o (fun z => hb (List.mem_singleton.mp z)) e
    have hS1 : h'.get? S = some (seqObj "list" old.toArray c) := hk' S _ (fun z => hIS (List.mem_singleton.mp z).symm) hS
    rcases hb with ⟨_, e⟩ | ⟨m, t, t', rfl, hm, hle⟩
    · omega
    · show wpAny _ X.A.in1 (updateSeq S (fun _ => #[]) >>= _) _ _ _
      refine wpAny_bind (wpAny_updateSeq hS1 rfl (wpAny_bind (wpAny_letGo (wpAny_pure ?_))))
      refine hR m t _ hm (fun n hn => ?_) (inv_touch (t' := tk') I1 OS fun b o hb e => ?_)
      · obtain ⟨i, hi, e⟩ := List.mem_iff_getElem.mp hn
        exact hle i hi n (by rw [List.getElem?_eq_getElem hi, e])
      · rw [Heap.get?_update_ne _ _ _ _ hb]
        exact e
  | succ r ih =>
    intro j s' old c hr hj I hS hit hb
    have hjn : j < is.length := by omega
    refine codeAny_builtin (A := X.A) PySem.F.entry_min_loop ?_
    rw [Around.under_plainId (A := X.A) PySem.F.plain_min_loop _]
    show wpAny _ X.A.in1 (seqItems? (.ref S) >>= _) _ _ _
    refine wpAny_bind (wpAny_seqItems (o := seqObj "list" old.toArray c) hS rfl ?_)
    show wpAny _ X.A.in1 (tryCatch (pyNext (.ref I0)) _ >>= _) _ _ _
    refine wpAny_bind (wpAny_tryCatch (W.item j _ _ _ (by rw [hlen]; exact hjn) ⟨hit, hdat _ (hda I)⟩ fun v h' tk' hP hst' hk' => ?_))
    obtain ⟨n, t, hn, rfl⟩ := hval j v hP
    have I1 : Inv X pins σ H { s' with heap := h', toks := tk' } := inv_touch I OI fun b o hb e => hk' b o (fun z => hb (List.mem_singleton.mp z)) e
    have hS1 : h'.get? S = some (seqObj "list" old.toArray c) := hk' S _ (fun z => hIS (List.mem_singleton.mp z).symm) hS
    obtain ⟨oI, hoI, hIr⟩ := id hst'.1
    have nI : ∀ v, oI.data ≠ .cell v := fun v z => by
      obtain ⟨_, hd⟩ := hIr
      rw [z] at hd
      cases hd
    have I2 := pin3 I1 hoI hS1 nI (fun v z => by cases z)
    show wpAny _ X.A.in1 (tryCatch (holding [.int n t] (call (.ref f) [.int n t])) _ >>= _) _ _ _
    refine wpAny_bind (wpAny_tryCatch (wpAny_holding (wpAny_mono (turn _ _ n t (List.mem_of_getElem? hn) (List.mem_append_left _ hfp) I2) (fun x s'' he => ?_) fun _ _ hF => hF.elim)))
    obtain ⟨t2, rfl, I3⟩ := he
    have hI3 : s''.heap.get? I0 = some oI := (I3.pin (I0, oI) (List.mem_append_right _ (List.mem_append_right _ List.mem_cons_self))).1
    have hS3 : s''.heap.get? S = some (seqObj "list" old.toArray c) := (I3.pin (S, _) (List.mem_append_right _ (List.mem_append_right _ (List.mem_cons_of_mem _ List.mem_cons_self)))).1
    have hit3 : s''.heap.IsKeyIter I0 a (j + 1) vs.length ep := hst'.1.at fun o e => by
      rw [hoI] at e
      cases e
      exact hI3
    have I4 := unpin I3
    have again : ∀ (s4 : Shared) (m : Int) (tm tm' : Tok) (c' : Nat), Inv X pins σ H s4 → s4.heap.get? S = some (seqObj "list" #[.int m tm, .int (g m) tm'] c') → s4.heap.IsKeyIter I0 a (j + 1) vs.length ep → m ∈ is → (∀ i, i < j + 1 → ∀ k, is[i]? = some k → g m ≤ g k) →
        codeAny (model X.prog X.w) X.A (.builtin "min.loop" ⟨[.ref I0, .ref f, .ref S], []⟩) R s4 := fun s4 m tm tm' c' J1 J2 J3 J4 J5 =>
      ih (j + 1) s4 [.int m tm, .int (g m) tm'] c' (by omega) (by omega) J1 J2 J3 (.inr ⟨m, tm, tm', rfl, J4, J5⟩)
    have put : ∀ (s4 : Shared), Inv X pins σ H s4 → s4.heap.get? S = some (seqObj "list" old.toArray c) → s4.heap.IsKeyIter I0 a (j + 1) vs.length ep → (∀ i, i < j + 1 → ∀ k, is[i]? = some k → g n ≤ g k) →
        ∀ tk4, codeAny (model X.prog X.w) X.A (.builtin "min.loop" ⟨[.ref I0, .ref f, .ref S], []⟩) R { s4 with heap := s4.heap.update S (Obj.mapSeq fun _ => #[.int n t, .int (g n) t2]), toks := tk4 } := fun s4 J1 J2 J3 J4 tk4 => by
      refine again _ n t t2 _ (inv_touch (t' := tk4) J1 OS fun b o hb e => ?_) (get?_update_seq J2 fun _ => #[.int n t, .int (g n) t2]) (J3.at fun o e => ?_) (List.mem_of_getElem? hn) J4
      · rw [Heap.get?_update_ne _ _ _ _ hb]
        exact e
      · show (s4.heap.update S _).get? I0 = some o
        rw [Heap.get?_update_ne _ _ _ _ hIS]
        exact e
    rcases hb with ⟨rfl, e0⟩ | ⟨m, tm, tm', rfl, hm, hle⟩
    · subst e0
      show wpAny _ X.A.in1 (updateSeq S (fun _ => #[.int n t, .int (g n) t2]) >>= _) _ _ _
      refine wpAny_bind (wpAny_updateSeq hS3 rfl ?_)
      rw [loopName]
      refine wpAny_pure ⟨plainId_quiet PySem.F.plain_min_loop _, put s'' I4 hS3 hit3 (fun i hi k hk => ?_) s''.toks⟩
      have : i = 0 := by omega
      rw [this, hn] at hk
      cases hk
      exact Int.le_refl _
    · show wpAny _ X.A.in1 (tryCatch (holding [.int n t, .int (g n) t2] (richCompare .Lt (.int (g n) t2) (.int (g m) tm') >>= _)) _ >>= _) _ _ _
      refine wpAny_bind (wpAny_tryCatch (wpAny_holding (wpAny_bind (CmpOf.ints_lt (prog := X.prog) (w := X.w) (A := X.A.in1) (P := fun i v => ∃ t, v = .int (if i = 0 then g n else g m) t) (fun i => if i = 0 then g n else g m) (fun i v h => h) 0 1 _ _ _ _ _ ⟨t2, rfl⟩ ⟨tm', rfl⟩ ?_))))
      refine wpAny_bind (wpAny_holding (wpAny_truthy_bool ?_))
      refine wpAny_bind (wpAny_letGo (wpAny_pure ?_))
      change wpAny _ _ (if decide (g n < g m) = true then _ else _) _ _ _
      by_cases hb' : g n < g m
      · simp only [hb', decide_true, if_true]
        refine wpAny_bind (wpAny_updateSeq hS3 rfl (wpAny_bind (wpAny_letGo ?_)))
        rw [loopName]
        refine wpAny_pure ⟨plainId_quiet PySem.F.plain_min_loop _, put s'' I4 hS3 hit3 (fun i hi k hk => ?_) _⟩
        by_cases e : i = j
        · rw [e, hn] at hk
          cases hk
          exact Int.le_refl _
        · have := hle i (by omega) k hk
          omega
      · simp only [hb', decide_false, Bool.false_eq_true, if_false]
        refine wpAny_bind (wpAny_letGo ?_)
        rw [loopName]
        refine wpAny_pure ⟨plainId_quiet PySem.F.plain_min_loop _, again _ m tm tm' c I4 hS3 hit3 hm (fun i hi k hk => ?_)⟩
        by_cases e : i = j
        · rw [e, hn] at hk
          cases hk
          omega
        · exact hle i (by omega) k hk
theorem min_run {s : Shared} {a f : Addr} {od fo : Obj} {kvs : List (Key × V)} {is : List Int} {g : Int → Int} {Q : VK}
    (hc : X.calm = true) (I : Inv X pins σ H s) (ha : H a = some (.frz od (.dK kvs))) (hk : kvs.map (·.1) = is.map Sum.inl) (hne : is ≠ []) (hfp : (f, fo) ∈ pins)
    (turn : KeyTurn X σ H f fo is g) (q : ∀ m, m ∈ is → (∀ j ∈ is, g m ≤ g j) → Q (.int m) H) :
    wpAny (model X.prog X.w) X.A (call (.builtin "min") [.ref a] [(Str.ofString "key", .ref f)]) (EP X pins σ Q) X.xe s := by
  have loopName : (toString "min" ++ toString ".loop" : String) = "min.loop" := by decide
  obtain ⟨hoa, hz, hsys, vs, rel, dof⟩ := I.hok a _ ha
  obtain ⟨ep, dat⟩ := dof.dictAt
  have hks : vs.map (·.1) = is.map Sum.inl := (KV.keys rel).symm.trans hk
  have hdat : ∀ h : Heap, h.get? a = some od → h.DictAt (mixKind X.prog X.w) a vs ep := fun h e => dat.at' fun o eo => by
    rw [hoa] at eo
    cases eo
    exact e
  have hpos : 0 < is.length := List.length_pos_iff.mpr hne
  have hlen : vs.length = is.length := by
    have e1 := congrArg List.length hks
    rw [List.length_map, List.length_map] at e1
    exact e1
  have hlt : a < s.heap.objs.size := Heap.lt_size hoa
  refine kmk_tree PySem.F.kind_min PySem.F.plain_min PySem.F.entry_min (kmk_min_key (.ref a) (.ref f)) ?_
  show wpAny _ X.A.in1 (Builtin.Builtins.bindParams "min" ["key", "default"] 0 ⟨[], [(Str.ofString "key", .ref f)]⟩ >>= _) _ _ s
  refine wpAny_bind (wpAny_of_eq (show Builtin.Builtins.bindParams "min" ["key", "default"] 0 ⟨[], [(Str.ofString "key", .ref f)]⟩ = pure [some (.ref f), none] from rfl) ?_)
  refine wpAny_bind (wpAny_pure ?_)
  refine wpAny_bind (wpAny_pyIter_dict (knd := mixKind X.prog X.w) hsys dat ?_)
  refine wpAny_bind (wpAny_newList ?_ (Nat.zero_le _))
  rw [loopName]
  refine wpAny_pure ⟨plainId_quiet PySem.F.plain_min_loop _, ?_⟩
  generalize hoI : ({ cls := Value.type "dict_keyiterator", data := Data.fields _ } : Obj) = oI
  have OI : Ours X pins H s.heap.objs.size := ours_new I (Nat.le_refl _)
  have hS : (s.heap.push oI).objs.size = s.heap.objs.size + 1 := size_push' ..
  have OS : Ours X pins H (s.heap.push oI).objs.size := ours_new I (by rw [hS]; exact Nat.le_succ _)
  have I1 : Inv X pins σ H { s with heap := (s.heap.push oI).push (seqObj "list" #[] 0) } := I.kept (t' := s.toks) fun b o e => Heap.get?_push_of_some _ (Heap.get?_push_of_some _ e)
  refine min_loop (pins := pins) (I.ok.hd hc) ha hks hdat hpos OI OS (by rw [hS]; exact Nat.ne_of_lt (Nat.lt_succ_self _)) (Nat.ne_of_lt hlt) hfp turn (fun m t s' hm hle I' => ⟨.int m, H, I', ⟨t, rfl⟩, q m hm hle⟩)
    _ 0 _ [] 0 rfl (Nat.zero_le _) I1 (Heap.get?_push_size _ rfl) ?_ (.inl ⟨rfl, rfl⟩)
  exact ⟨oI, Heap.get?_push_of_some _ (Heap.get?_push_size _ (by rw [← hoI] <;> rfl)), by rw [← hoI], by rw [← hoI] <;> rfl⟩
end
end Gf
set_option Elab.async false
set_option linter.all false
set_option maxRecDepth 100000
set_option maxHeartbeats 2000000
namespace Gf
open PySem PySem.Spec PyProof.Rows L2 LamX NdefX
/-! ### a lambda called: by its body's reading -/
section
variable {P : Program} {w : World} {K : PySem.W.Frag} {mg : Str → Option Value} {base : Heap} {N ps fr : List Str} {F : NF} {f : Addr} {A : Around} {outer : List Env} {s : Shared} {H : Hp} {us : List Value} {vs : List V} {ws : List (Option V)} {k : Nat} {pm ctv : Value} {be : Expr} {t : TE} {Q : VK}
theorem lam_run (S : NScope N ps fr F.scope) (hb : bindArgs (PySem.W.kla_fn "<lambda>" F.qual F.params be F.scope F.cl pm (.ref F.c) ctv) ⟨us, []⟩ = pure (ps.zip us)) (hr : Room (k + 1) A) (e0 : Env0 P w K mg base A outer s H)
    (ho : s.heap.get? f = some (PySem.W.kla_obj "<lambda>" F.qual F.params be F.scope F.cl pm F.c ctv)) (hc : s.heap.CodeRec (.ref F.c) F.qual) (C : CellsAt F.cl fr ws s.heap H) (r : Vals vs us) (hl : vs.length = ps.length)
    (hp : PE (ncx CX0 P w K mg base N F f A outer s H E0) be t) (q : t (startF N vs ws) H Q) : codeAny (model P w) A (.call (.ref f) ⟨us, []⟩) (CR CX0 outer P w H s Q E0) s := by
  have lim : s.heap.NoLimit := e0.mod.nolimit.keeps fun b o e => (e0.bs b o e).1
  refine PySem.W.kla_callFunE hr.depth ho rfl S.co S.gen rfl hc ?_
  rw [hb]
  refine wpAny_pure (wpAny_newFunctionEnv S.nocell (fun ⟨n, _⟩ hy => S.par n (List.of_mem_zip hy).1) (fun h1 hns hsb => ⟨lim.fresh _ hsb, ?_⟩) S.kind)
  have kp : ∀ b o, s.heap.get? b = some o → h1.get? b = some o := fun b o e => hsb.extBut b o (Nat.ne_of_lt (Heap.lt_size e)) (Heap.get?_push_of_some _ e)
  have I := inv_startN (CX := CX0) (P := P) (w := w) (F := F) (f := f) (E := E0) (tk := s.toks + (ps.zip us).length) S hr.hd e0 hl r C hns kp
  show codeAny _ _ (.expr be (envF F f s.heap.objs.size)) _ _
  refine PySem.W.kla_codeExpr (wpAny_mono (hp.run [] _ (startF N vs ws) H Q I q) (fun v s' hq => ?_) fun e s' hq => hq)
  obtain ⟨v', H', J, rv, q'⟩ := hq
  exact ⟨v', H', J.os, J.bare, J.base, J.hok, rv, q'⟩
end
/-! ### min(d, key=lambda x: ..) -/
/-- the lambda's words, captured cells, code object -/
abbrev lamF (X : Cx) (params : Arguments) (scope : Scope) (c' : Addr) : NF := ⟨"<lambda>", X.env.qual ++ "<lambda>", params, [], scope, cloFrom X.env.cells scope.names [], c'⟩
/-- what is asked once the dict stands: it is locked, its keys are ints; the lambda's reading at each key gives g of it; then any least one -/
def MinAsk (T : List (Addr × Str)) (N : List Str) (js : List Nat) (tb : TE) (σ : L2.St) (Q : VK) (vs : List V) (H1 : Hp) : Prop := Tabs T H1 ∧
  ∃ (a : Addr) (od : Obj) (kvs : List (Key × V)) (is : List Int) (g : Int → Int), vs = [.ref a] ∧ H1 a = some (.frz od (.dK kvs)) ∧ kvs.map (·.1) = is.map Sum.inl ∧ is ≠ [] ∧
    ∀ H2, ExtN H1 H2 → Tabs T H2 → (∀ n ∈ is, tb (startF N [.int n] (js.map (slotAt σ))) H2 fun v H3 => v = .int (g n) ∧ H3 = H2) ∧ ∀ m ∈ is, (∀ j ∈ is, g m ≤ g j) → Q (.int m) H2
def tMinKey (T : List (Addr × Str)) (N : List Str) (js : List Nat) (ta : TA) (tb : TE) : TE := fun σ H Q => ta σ H (MinAsk T N js tb σ Q)
section
variable {X : Cx}
theorem pe_minKey {T : List (Addr × Str)} {c P : Addr} {k : Nat} {params : Arguments} {be e : Expr} {scope : Scope} {x : Str} {fr : List Str} {N : List Str} {js : List Nat} {ta : TA} {tb : TE} {p lpos kpos pos : Pos}
    (hcalm : X.calm = true) (hg : Gl X "min") (hm : X.mg "min" = none) (TB : TabB X.base X.mg c P) (hcode : X.env.code = .ref c) (hmT : (P, X.env.qual ++ "<lambda>") ∈ T) (hu : ∀ p ∈ T, p.1 = P → p.2 = X.env.qual ++ "<lambda>")
    (hr : Room (k + 2) X.A) (hdef : defaultsOf params X.env = ([], [])) (S : NScope N [x] fr scope) (hfree : ∀ y ∈ scope.names, y.2 = .free → X.env.scope.names.lookup y.1 = some .cell ∨ X.env.scope.names.lookup y.1 = some .free)
    (hfr : ∀ y ∈ fr, (y, NameKind.free) ∈ scope.names) (hjs : js.map (fun j => X.N[j]?) = fr.map some)
    (hb : ∀ (q : Str) (cl : List (Str × Addr)) (pm cv ctv u : Value), bindArgs (PySem.W.kla_fn "<lambda>" q params be scope cl pm cv ctv) ⟨[u], []⟩ = pure [(x, u)])
    (hpa : PA X [e] ta) (hbody : ∀ (A : Around) (outer : List Env) (s : Shared) (H : Hp) (f c' : Addr), Room k (A.deeper (envF (lamF X params scope c') f s.heap.objs.size)) → PE (ncx CX0 X.prog X.w X.K X.mg X.base N (lamF X params scope c') f A outer s H E0) be tb)
    (hs1 : backTo pos (starEach [e] X.env) = (false, eval e X.env) :: backTo pos (starEach [] X.env) := by rfl) (hpl : (backTo pos (starEach [e] X.env)).any (·.1) = false := by rfl)
    (hall : (backToKw pos (keywordEach [⟨some "key", .Lambda params be scope lpos, kpos⟩] X.env)).all (·.1.isSome) = true := by rfl) (hkn : (backToKw pos (keywordEach [⟨some "key", .Lambda params be scope lpos, kpos⟩] X.env)).any (·.1.isNone) = false := by rfl)
    (hks : (backToKw pos (keywordEach [⟨some "key", .Lambda params be scope lpos, kpos⟩] X.env)).filterMap (·.1) = [Str.ofString "key"] := by rfl) :
    PE X (.Call (.Name "min" p) [e] [⟨some "key", .Lambda params be scope lpos, kpos⟩] pos) (tMinKey T N js ta tb) := by
  refine ⟨fun pins s σ H Q I h => ?_⟩
  refine wpAny_Call_Name_kw (ld_blt I hg hm PyProof.Rows.boot_min ?_ (by decide) (by decide))
  refine PyProof.Rows.callWith_kw (thn (hpa.run pos pins s σ H _ I h) fun us s1 ⟨vs, H1, I1, r1, hT, a, od, kvs, is, g, ev, ha, hk, hne, rest⟩ => ?_) hs1 hpl hall hkn
  subst ev
  rw [hks]
  obtain rfl := Vals.ref1 r1
  have hf : ∀ y ∈ scope.names, y.2 = .free → ∃ c, X.env.cells.lookup y.1 = some c := fun y hy e => (hfree y hy e).elim (fun z => I1.ok.has _ (.inl z)) fun z => I1.ok.has _ (.inr z)
  show wpAny _ _ (evalAll ((do let v ← eval (.Lambda params be scope lpos) X.env; standAt pos; pure v) :: [])) _ _ s1
  refine wpAny_evalAll_cons (wpAny_bind (lam_make2 I1 TB hcode hmT hu hT hdef hf fun f c' pm ctv H2 s2 I2 eN T2 of1 fn1 fst1 co1 => wpAny_bind (wpAny_standAt (wpAny_pure (wpAny_evalAll_nil ?_)))))
  obtain ⟨hbody', q⟩ := rest H2 eN T2
  have fsub : ∀ b ∈ X.fs, b ∈ frs X.stack := fun b hb => by
    rcases I2.ok.stk with e | ⟨e, hfr⟩
    · rw [e]
      exact hb
    · rw [e]
      unfold frs
      rw [List.filterMap_cons, hfr]
      exact List.mem_cons_of_mem _ hb
  have nloc : f ≠ X.env.locals := fun e => by
    obtain ⟨m, ⟨o, es, ep, ho, hd, _⟩, _⟩ := I2.loc
    rw [← e, of1] at ho
    cases ho
    cases hd
  have I3 : Inv X (pins ++ [(f, PySem.W.kla_obj "<lambda>" (X.env.qual ++ "<lambda>") params be scope (cloFrom X.env.cells scope.names []) pm c' ctv)]) σ H2 s2 := I2.pins_of fun p hp => by
    rcases List.mem_append.mp hp with z | z
    · exact I2.pin p (List.mem_append_right _ z)
    · rw [List.mem_singleton.mp z]
      exact ⟨of1, fn1, nloc, fun z => fst1 (fsub _ z), fun v z => by cases z⟩
  have ha2 : H2 a = some (.frz od (.dK kvs)) := eN a _ ha fun ps z => by cases z
  refine wpAny_mono (min_run (Q := Q) hcalm I3 ha2 hk hne (List.mem_append_right _ List.mem_cons_self) (fun pins' s' n t hn hfp I' => ?_) q) (fun u s' ⟨v, H', J, rv, z⟩ => ⟨v, H', J.unpinned, rv, z⟩) fun _ _ z => z
  have ho' := (I'.pin (f, _) (List.mem_append_right _ hfp)).1
  have hcr : s'.heap.CodeRec (.ref c') (X.env.qual ++ "<lambda>") := codeO_at I'.hok co1
  have hcells := cells_of I' (Caps.made (js := js) I'.ok hfree hfr hjs)
  have run := lam_run (F := lamF X params scope c') (us := [.int n t]) (vs := [.int n]) (k := k) S (hb _ _ _ _ _ _) hr.in1 I'.env0.in1 ho' hcr hcells (.cons ⟨t, rfl⟩ .nil) rfl (hbody _ _ _ _ _ _ (hr.in1.deeper _)) (hbody' n hn)
  refine wpAny_call (codeAny_mono run fun r s'' hq => ?_)
  cases r with
  | error e => exact (show False from hq).elim
  | ok fl =>
    cases fl with
    | ret u =>
      obtain ⟨v, H3, J, rv, ev, eH⟩ := I'.after hq
      subst ev eH
      obtain ⟨t', eu⟩ := rv
      exact ⟨t', eu, J⟩
    | next => exact False.elim hq
    | brk => exact False.elim hq
    | cont => exact False.elim hq
end
end Gf
set_option Elab.async false
set_option linter.all false
set_option maxRecDepth 100000
set_option maxHeartbeats 2000000
namespace Gf
open PySem PySem.Spec PyProof.Rows L2 LamX NdefX
open PySem.W (WData Codec OpenSpec Well WellAll ReadsW ReadsAllW)
/-! ### the end of a specification's row, with tables of code objects -/
theorem sqT_same {K : PySem.W.Frag} {H H' : Hp} {a : Addr} {xs : List V} (e : Same H H') (h : SqT K H a xs) : SqT K H' a xs := by
  rcases h with (h | ⟨o, h⟩) | h
  · exact .inl (.inl (e _ _ h))
  · exact .inl (.inr ⟨o, e _ _ h⟩)
  · exact .inr h
mutual
theorem dw_same {K : PySem.W.Frag} {H H' : Hp} (e : Same H H') : ∀ (v : V) (d : WData), Dw K H v d → Dw K H' v d
  | _, _, .non => .non
  | _, _, .bl b => .bl b
  | _, _, .int i => .int i
  | _, _, .str x => .str x
  | _, _, .byt b => .byt b
  | _, _, .lst h1 h2 => .lst (e.seq h1) (dwAll_same e _ _ h2)
  | _, _, .tup h1 h2 => .tup (sqT_same e h1) (dwAll_same e _ _ h2)
theorem dwAll_same {K : PySem.W.Frag} {H H' : Hp} (e : Same H H') : ∀ (vs : List V) (ds : List WData), DwAll K H vs ds → DwAll K H' vs ds
  | _, _, .nil => .nil
  | _, _, .cons h1 h2 => .cons (dw_same e _ _ h1) (dwAll_same e _ _ h2)
end
/-- nothing is tracked but what is locked, and tables -/
def OnlyT (H : Hp) : Prop := ∀ b o, H b = some o → (∃ ob u, o = .frz ob u) ∨ ∃ ps, o = .tbl ps
/-- the arguments and the tables, tracked -/
def withT (cs : List (Addr × Addr)) (H : Hp) : Hp := fun b => if b ∈ cs.map (·.2) then some (.tbl #[]) else H b
theorem withT_in {cs : List (Addr × Addr)} {H : Hp} {b : Addr} (h : b ∈ cs.map (·.2)) : withT cs H b = some (.tbl #[]) := if_pos h
theorem withT_out {cs : List (Addr × Addr)} {H : Hp} {b : Addr} (h : b ∉ cs.map (·.2)) : withT cs H b = H b := if_neg h
theorem spec_callT {P : Program} {w : World} {K : PySem.W.Frag} {mg mb : Str → Option Value} {CX : CXT} {k : Nat} {fa : Addr} {fd : FuncData} {ps : List Str} {sp : Sp} {s1 : Shared} {vals : List Value} {ds : List WData} {R : PySem.W.WRecords} {cl : Str → Option Addr} {d0 : WData} {cs : List (Addr × Addr)}
    (KX : K.In s1.heap) (hns : s1.heap.Ns mainGlobals mg) (hb : s1.heap.Ns builtinsNs mb) (hbb : ∀ x : Str, x ≠ "__name__" → mb x = bootBuiltins x) (hlim : s1.heap.NoLimit) (hg : s1.gens = #[])
    (hbm : ∃ (bm : Addr) (ob : Obj), mg "__builtins__" = some (.ref bm) ∧ bm ≠ builtinsNs ∧ s1.heap.get? bm = some ob ∧ ob.cls = .type "module" ∧ ob.dict = some builtinsNs ∧ ob.data = .plain)
    (hT : ∀ p ∈ cs, s1.heap.get? p.2 = some { cls := .none, data := .fields #[] }) (nT : ∀ p ∈ cs, K.lookup p.2 = none) (C : ∀ p ∈ cs, PySem.W.CodeHd s1.heap p.1 p.2)
    (hwl : WellAll w.params s1.heap vals ds) (hpl : plWs ds = true) (hwt : ∀ d ∈ ds, d.weight ≤ 1048576) (hr : Room k callerA)
    (F : ∀ base : Heap, K.In base → base.Ns mainGlobals mg → (∀ p ∈ cs, TabB base mg p.1 p.2) → FnOk P w K mg base CX k fa fd ps sp) (hbind : ∀ (s : Shared) (us : List Value), us.length = ps.length → BindsTo s fd ⟨us, []⟩ (ps.zip us)) (hlen : ds.length = ps.length)
    (hsp : ∀ (H : Hp) (xs : List V), (∀ p ∈ cs, H p.2 = some (.tbl #[])) → OnlyT H → DwAll K H xs ds → sp xs H (fun v H' => Dw K H' v d0) fun _ _ _ => False)
    (hCX : ∀ H e s', CX [] H s1 (fun _ _ _ => False) e s' → False) :
    codeAny (model P w) callerA (.call (.ref fa) ⟨vals, []⟩) (fun r s' => ∃ u as, r = .ok (.ret u) ∧ ReadsW R cl s'.heap u d0 as ∧ OldK s1.heap s'.heap ∧ s'.os = s1.os ∧ AllBare s'.gens) s1 := by
  obtain ⟨Ar, ho, ar⟩ := area_all ds vals hwl hpl hwt
  have isT : ∀ b, b ∈ cs.map (·.2) → s1.heap.get? b = some { cls := .none, data := .fields #[] } ∧ K.lookup b = none := fun b hb => by
    obtain ⟨p, hp, e⟩ := List.mem_map.mp hb
    rw [← e]
    exact ⟨hT p hp, nT p hp⟩
  have memT : ∀ y ∈ cs, y.2 ∈ cs.map (·.2) := fun y hy => List.mem_map.mpr ⟨y, hy, rfl⟩
  -- an argument's object is no table
  have argT : ∀ b u, argH K s1.heap Ar b = some u → b ∉ cs.map (·.2) ∧ K.lookup b = none ∧ ∃ o, s1.heap.get? b = some o ∧ (∃ ys n, o.data = .seq ys n) ∧ ∃ u', u = .frz o u' := fun b u q => by
    obtain ⟨h1, vs, _, _, ⟨e, eu⟩ | ⟨e, eu⟩⟩ := argH_is ar q
    · exact ⟨fun z => (by rw [(isT b z).1] at e; cases e), h1, _, e, ⟨_, _, rfl⟩, _, eu⟩
    · exact ⟨fun z => (by rw [(isT b z).1] at e; cases e), h1, _, e, ⟨_, _, rfl⟩, _, eu⟩
  have hS0 := dw_all KX ar ds vals hwl hpl ho
  have hok0 : HOk P w (argH K s1.heap Ar) s1.heap := argH_ok ar
  have hV := vals_toV ho
  generalize argH K s1.heap Ar = HA at argT hS0 hok0
  have same : Same HA (withT cs HA) := fun b o e => by
    rw [withT_out (argT b o e).1]
    exact e
  have hok : HOk P w (withT cs HA) s1.heap := fun b u e => by
    by_cases hb : b ∈ cs.map (·.2)
    · rw [withT_in hb] at e
      cases e
      exact (isT b hb).1
    · rw [withT_out hb] at e
      exact (hok0 b u e).stay (fun _ _ _ q => q) (fun c q => same c _ q) fun c xs q => same c _ q
  have hS : DwAll K (withT cs HA) (vals.map toV) ds := dwAll_same same _ _ hS0
  have only : OnlyT (withT cs HA) := fun b o e => by
    by_cases hb : b ∈ cs.map (·.2)
    · rw [withT_in hb] at e
      cases e
      exact .inr ⟨_, rfl⟩
    · rw [withT_out hb] at e
      obtain ⟨_, _, o', _, _, u', eu⟩ := argT b o e
      exact .inl ⟨o', u', eu⟩
  -- nothing but arguments and tables is tracked
  have noD : ∀ {b : Addr} {o : Obj}, s1.heap.get? b = some o → (∀ ys n, o.data ≠ .seq ys n) → o.data ≠ .fields #[] → withT cs HA b = none := fun {b o} e h1 h2 => by
    by_cases hb : b ∈ cs.map (·.2)
    · rw [(isT b hb).1] at e
      cases e
      exact (h2 rfl).elim
    · rw [withT_out hb]
      cases q : HA b with
      | none => rfl
      | some u =>
        obtain ⟨_, _, o', e', ⟨ys, n, hd⟩, _⟩ := argT b u q
        rw [e] at e'
        cases e'
        exact (h1 _ _ hd).elim
  have baseAt : ∀ {b : Addr} {o : Obj}, s1.heap.get? b = some o → withT cs HA b = none → (hidT s1.heap (withT cs HA)).get? b = some o := fun e n => hidT_get e n
  have nsK : ∀ {b : Addr} {m : Str → Option Value}, s1.heap.Ns b m → (hidT s1.heap (withT cs HA)).Ns b m := fun {b m} ⟨o, es, ep, e, d, r⟩ =>
    ⟨o, es, ep, baseAt e (noD e (fun ys n z => by rw [d] at z; cases z) fun z => by rw [d] at z; cases z), d, r⟩
  have hKb : K.In (hidT s1.heap (withT cs HA)) := fun b o e => baseAt (KX b o e) (by
    by_cases hb : b ∈ cs.map (·.2)
    · rw [(isT b hb).2] at e
      cases e
    · rw [withT_out hb]
      cases q : HA b with
      | none => rfl
      | some u =>
        rw [(argT b u q).2.1] at e
        cases e)
  have hM : L2.Mod K mg (hidT s1.heap (withT cs HA)) := ⟨hKb, nsK hns, ⟨mb, nsK hb, hbb⟩, let ⟨mc, h1, h2⟩ := hlim; ⟨mc, nsK h1, h2⟩⟩
  have TB : ∀ p ∈ cs, TabB (hidT s1.heap (withT cs HA)) mg p.1 p.2 := fun p hp => by
    have hTp := hT p hp
    refine ⟨?_, ?_, fun z => ?_⟩
    · obtain ⟨o, us, file, tf, flags, tg, inF, text, tt, e1, r1, r2, r3, rest⟩ := C p hp
      exact ⟨o, us, file, tf, flags, tg, inF, text, tt, baseAt e1 (noD e1 (fun ys n z => by rw [r2] at z; cases z) fun z => by rw [r2] at z; cases z; simp at r3), r1, r2, r3, rest⟩
    · obtain ⟨bm, ob, b1, b2, b3, b4, b5, b6⟩ := hbm
      refine ⟨bm, ob, b1, b2, fun q => ?_, fun q => ?_, baseAt b3 (noD b3 (fun ys n z => by rw [b6] at z; cases z) fun z => by rw [b6] at z; cases z), b4, b5, b6⟩
      · obtain ⟨o, es, ep, e, hd, _⟩ := hns
        rw [q, e] at b3
        cases b3
        rw [hd] at b6
        cases b6
      · rw [q, hTp] at b3
        cases b3
        cases b6
    · obtain ⟨o, es, ep, e, hd, _⟩ := hns
      rw [z, hTp] at e
      cases e
      cases hd
  have e0 : Env0 P w K mg (hidT s1.heap (withT cs HA)) callerA [] s1 (withT cs HA) := ⟨rfl, hM, fun b o e => of_hidT e, Nat.le_of_eq (hidT_size _ _), trivial, fun b hb => absurd (show b ∈ ([] : List Addr) from hb) (by simp), hok, .of_eq hg⟩
  have lenV : vals.length = ps.length := (wellAll_len hwl).trans hlen
  refine codeAny_mono ((F _ hKb (nsK hns) TB).run callerA [] s1 (withT cs HA) ⟨vals, []⟩ vals (vals.map toV) _ _ hr e0 (hbind s1 vals lenV) hV (hsp _ _ (fun p hp => withT_in (memT p hp)) only hS)) fun r s' x => ?_
  cases r with
  | error e => exact (hCX _ e s' x).elim
  | ok fl =>
    cases fl with
    | next => exact False.elim x
    | brk => exact False.elim x
    | cont => exact False.elim x
    | ret u =>
      obtain ⟨v, H', os, bare, un, hok', r', q⟩ := x
      have kept : ∀ b o, b ∉ cs.map (·.2) → s1.heap.get? b = some o → s'.heap.get? b = some o := fun b o nb e => by
        cases q2 : HA b with
        | none => exact un.keep b o e ((withT_out nb).trans q2) (by intro z; exact absurd (show b ∈ ([] : List Addr) from z) (by simp)) (by simp)
        | some u2 =>
          obtain ⟨_, _, o', e', _, u', eu⟩ := argT b u2 q2
          rw [eu] at q2
          have z2 := un.frzs b o' _ (same b _ q2)
          obtain ⟨e2, _⟩ := hok' b _ z2
          rw [e] at e'
          cases e'
          exact e2
      have grown : ∀ b, b ∈ cs.map (·.2) → ∃ more : Array Value, s'.heap.get? b = some { cls := .none, data := .fields more } := fun b hb => by
        obtain ⟨more, z⟩ := un.tbls b #[] (withT_in hb)
        exact ⟨_, hok' b _ z⟩
      have KX' : K.In s'.heap := fun b o e => kept b o (fun z => by rw [(isT b z).2] at e; cases e) (KX b o e)
      obtain ⟨ads, rdd⟩ := Dw.reads (R := R) (cl := cl) hok' KX' d0 v u q r'
      refine ⟨u, ads, rfl, rdd, ⟨fun b o e => ?_, fun b o e => ?_⟩, os, bare⟩
      · by_cases hb : b ∈ cs.map (·.2)
        · obtain ⟨p, hp, ep⟩ := List.mem_map.mp hb
          obtain ⟨more, hm⟩ := grown b hb
          rw [(isT b hb).1] at e
          cases e
          refine .inr (.inl ⟨?_, rfl, #[], more, rfl, by rw [Array.empty_append]; exact hm⟩)
          rw [← ep]
          exact ((C p hp).tab (hT p hp)).isCodeTable
        · exact .inl (kept b o hb e)
      · by_cases hb : b ∈ cs.map (·.2)
        · obtain ⟨more, hm⟩ := grown b hb
          exact ⟨_, hm⟩
        · exact ⟨o, kept b o hb e⟩
/-- what is known of the row's def at the head's heap -/
def SpecAt (r : OpenSpec) (w : World) (K : PySem.W.Frag) (k : Nat) (ps : List Str) (mg : Str → Option Value) (fa : Addr) (h : Heap) : Prop :=
  ∃ (fd : FuncData) (cs : List (Addr × Addr)) (sp : Sp), (∀ p ∈ cs, h.get? p.2 = some { cls := .none, data := .fields #[] } ∧ K.lookup p.2 = none ∧ PySem.W.CodeHd h p.1 p.2) ∧
    (∀ (s : Shared) (us : List Value), us.length = ps.length → BindsTo s fd ⟨us, []⟩ (ps.zip us)) ∧
    (∀ (H : Hp) (xs : List V) (a : Codec.denoteAll r.args), (∀ p ∈ cs, H p.2 = some (.tbl #[])) → OnlyT H → Codec.withinAll r.args a = true → Codec.app r.args r.asked a = true → DwAll K H xs (Codec.encAll r.args a) →
      sp xs H (fun v H' => Dw K H' v (r.ret.enc (Codec.app r.args r.f a))) fun _ _ _ => False) ∧
    ∀ base : Heap, K.In base → base.Ns mainGlobals mg → (∀ p ∈ cs, TabB base mg p.1 p.2) → FnOk r.prog w K mg base CX0 k fa fd ps sp
theorem walk_specT {r : OpenSpec} {k : Nat} {q : Program} {loose : List Str} {XP : (Str → Option Value) → Heap → Prop} {YP : World → Heap → Prop} {d : DefRec} {K : Params → PySem.W.Frag} {ps : List Str}
    (hwell : r.wellSaid = true) (hdf : d.params.defaults = []) (hlen : r.args.length = ps.length) (hr : Room k callerA) (hY : ∀ (w : World) (h : Heap), YP w h → (K w.params).In h)
    (F : ∀ (w : World) (s0 : Shared) (mg mb : Str → Option Value) (fa : Addr) (h : Heap), PySem.W.Ground q loose [] XP w s0 mg mb h → YP w h → (K w.params).In h → mg d.name = some (.ref fa) → SpecAt r w (K w.params) k ps mg fa h) :
    PySem.W.WalkOS q loose XP YP r d [] (fun f vs => PySem.call f vs) := by
  intro w s0 s1 mg mb G Y fa o pm cd doc dV kV ho hd hcd hD hmg hg args vals as hpre hlay hrd hwl hlo
  obtain ⟨a, dec, e2⟩ := PySem.W.os_pre_some hpre
  obtain ⟨eargs, hwi⟩ := Codec.encAll_of_decAll r.args args a dec
  subst eargs
  have KX := hY w _ Y
  obtain ⟨fd, cs, sp, hcs, hb, hsp, hF⟩ := F w s0 mg mb fa _ G Y KX hmg
  refine PySem.W.enter_call (codeAny_mono (spec_callT (R := []) (cl := classAt s0.heap) (d0 := r.ret.enc (Codec.app r.args r.f a)) KX G.T.g G.T.b G.T.builtins G.T.nolimit hg G.T.bmain (fun p hp => (hcs p hp).1) (fun p hp => (hcs p hp).2.1) (fun p hp => (hcs p hp).2.2) hwl (pl_encAll _ _) (layable_weight hlay) hr hF hb
    (by rw [encAll_len]; exact hlen) (fun H xs hH hO hS => hsp H xs a hH hO hwi e2 hS) fun _ _ _ z => z) fun r' s' hq => ?_)
  obtain ⟨u, ads, rfl, rdd, old, sameOs, bare⟩ := hq
  exact ⟨.inl ⟨u, _, ads, rfl, fun _ => rfl, rdd, (OpenSpec.post_iff hwell hwi _ _).mpr rfl, fun z => Bool.noConfusion (show false = true from z)⟩, old, sameOs, bare⟩
end Gf
set_option Elab.async false
set_option linter.all false
set_option maxRecDepth 100000
set_option maxHeartbeats 2000000
namespace Gf
open PySem PySem.Spec PyProof.Rows L2
/-! ### list(d.values()) -/
def tListVals (td : TE) : TE := fun σ H Q => td σ H fun x H1 => ∃ a kvs, x = V.ref a ∧ H1 a = some (.dK kvs) ∧ ∀ q, H1 q = none → Q (.ref q) (upd H1 q (.lst (kvs.map (·.2))))
theorem kv_vals : ∀ {kvs : List (Key × V)} {vs : List (Key × Value)}, KV kvs vs → Vals (kvs.map (·.2)) (vs.map (·.2))
  | _, _, .nil => .nil
  | _, _, .cons r t => .cons r.2 (kv_vals t)
section
variable {X : Cx} {o : Expr} {p pos apos mpos : Pos} {td : TE}
theorem pe_listVals (hc : X.calm = true) (hg : Gl X "list") (hm : X.mg "list" = none) (hd : PE X o td) (hbase : attributeBase o "values" X.env (eval o X.env) = eval o X.env := by rfl) (hline : (apos.endLine == mpos.line) = true := by rfl)
    (hse : starEach [Expr.Call (.Attribute o "values" apos) [] [] mpos] X.env = (false, eval (Expr.Call (.Attribute o "values" apos) [] [] mpos) X.env) :: starEach [] X.env := by rfl) :
    PE X (.Call (.Name "list" p) [.Call (.Attribute o "values" apos) [] [] mpos] [] pos) (tListVals td) := by
  refine ⟨fun pins s σ H Q I h => ?_⟩
  refine wpAny_Call_Name_kw (ld_blt I hg hm PyProof.Rows.boot_list ?_ (by decide) (by decide))
  refine PyProof.Rows.callWith_type1 (args_cons (wpAny_Call_method0_late hbase hline (thn (hd.run pins s σ H _ I h) fun v s1 ⟨x, H1, I1, r1, a, kvs, ex, ha, q⟩ => ?_)) hse) hse
  subst ex
  obtain rfl : v = Value.ref a := r1
  obtain ⟨hz, hsys, vs, rel, dof⟩ := dk_of I1.hok ha
  obtain ⟨ep, dat⟩ := dof.dictAt
  obtain ⟨ob, es, ho, exd, hdat, hko, hpr, hnd⟩ := id dat
  refine ⟨"dict", "dict.values", F.plainAttrs_dict, F.slot_dict_values, F.type_dict_values, ⟨ob, ho, exd.1⟩, fun b e => ?_, Calls.callWith_builtin rfl (PySem.evalArgs_none ?_)⟩
  · cases e
    exact ⟨ob, ho, exd.2.1⟩
  refine call_meetsIn F.slot_dict_values ⟨ob, ho, exd.1⟩ F.entry_dict_values (F.args_dict_values_1 _) (meets_dict_values (mixKind X.prog X.w) a hsys) ⟨⟨vs, dof⟩, args_nil ?_⟩
  have keepV : ∀ b u, s1.heap.get? b = some u → (s1.heap.push { cls := .type "dict_values", data := .fields #[.ref a] }).get? b = some u := fun b u e => Heap.get?_push_of_some _ e
  have I2 : Inv X pins σ H1 { s1 with heap := s1.heap.push { cls := .type "dict_values", data := .fields #[.ref a] } } := I1.kept (t' := s1.toks) keepV
  have hl : kvs.length = vs.length := Paired.length rel
  refine PySem.W.kdl_call (PySem.W.kdl_values (knd := mixKind X.prog X.w) (r := s1.heap.objs.size) (d := a) (kvs := vs) (ep := ep)) (I1.ok.hd hc) ⟨⟨_, Heap.get?_push_size _ rfl, rfl, rfl⟩, dat.keep keepV⟩ (by rw [← hl]; exact hz) fun h' tk acc c hkeep hS hacc => ?_
  have ev : acc.toList = vs.map (·.2) := PySem.W.kdl_vals_eq acc.toList (by rw [Array.length_toList]; exact hacc.1) fun j v e => hacc.2 j v (by rw [← Array.getElem?_toList]; exact e)
  refine ⟨.ref (s1.heap.push { cls := .type "dict_values", data := .fields #[.ref a] }).objs.size, _, I2.laid (t' := tk) (o := .lst (kvs.map (·.2))) hkeep (Nat.le_refl _) ⟨by rw [List.length_map]; exact hz, acc.toList, c, by rw [ev]; exact kv_vals rel, ?_⟩, rfl, q _ (I2.hok.fresh (Nat.le_refl _))⟩
  rw [Array.toArray_toList]
  exact hS
end
end Gf
set_option Elab.async false
set_option linter.all false
set_option maxRecDepth 100000
set_option maxHeartbeats 2000000
namespace Gf
open PySem PySem.Spec PyProof.Rows L2 LamX NdefX
/-! ### min(l, key=f) over a locked list of ints: the first of the least -/
section
variable {X : Cx} {pins : List (Addr × Obj)} {σ : L2.St} {H : Hp}
/-- the best so far: none, or the item at i and its key -/
def BestL (is : List Int) (g : Int → Int) (j : Nat) (old : List Value) : Prop :=
  (old = [] ∧ j = 0) ∨ ∃ (i : Nat) (m : Int) (t t' : Tok), old = [.int m t, .int (g m) t'] ∧ is[i]? = some m ∧ i < j ∧ ∀ k, k < j → ∀ n, is[k]? = some n → g m ≤ g n ∧ (k < i → g m < g n)
theorem minL_loop {a f I0 S : Addr} {od fo : Obj} {its : List Value} {is : List Int} {g : Int → Int} {R : Result → Shared → Prop}
    (hh : X.A.handled = none) (ha : H a = some (.frz od (.lst (is.map V.int)))) (hv : Vals (is.map V.int) its) (hdat : ∀ h : Heap, h.get? a = some od → h.IsList a its.toArray) (hpos : 0 < is.length)
    (OI : Ours X pins H I0) (OS : Ours X pins H S) (hIS : I0 ≠ S) (haI : a ≠ I0) (hfp : (f, fo) ∈ pins)
    (turn : KeyTurn X σ H f fo is g) (hR : ∀ (i : Nat) (m : Int) (t : Tok) (s' : Shared), is[i]? = some m → (∀ (k : Nat) (n : Int), is[k]? = some n → g m ≤ g n ∧ (k < i → g m < g n)) → Inv X pins σ H s' → R (.ok (.ret (.int m t))) s') :
    ∀ (r j : Nat) (s' : Shared) (old : List Value) (c : Nat), is.length - j = r → j ≤ is.length → Inv X pins σ H s' → s'.heap.get? S = some (seqObj "list" old.toArray c) → s'.heap.IsListIter I0 a j → BestL is g j old →
      codeAny (model X.prog X.w) X.A (.builtin "min.loop" ⟨[.ref I0, .ref f, .ref S], []⟩) R s' := by
  have loopName : (toString "min" ++ toString ".loop" : String) = "min.loop" := by decide
  have W := Walks.list (prog := X.prog) (w := X.w) (A := X.A.in1) hh I0 a haI its.toArray
  have hlen : its.length = is.length := by
    have e := hv.length
    rw [List.length_map] at e
    exact e.symm
  have hsz : its.toArray.size = is.length := by rw [List.size_toArray, hlen]
  have hval : ∀ (i : Nat) (v : Value), its.toArray[i]? = some v → ∃ n t, is[i]? = some n ∧ v = Value.int n t := fun i v hk => by
    have hk' : its[i]? = some v := by simpa using hk
    have hi : i < is.length := by rw [← hlen]; exact (List.getElem?_eq_some_iff.mp hk').1
    obtain ⟨u, hu, ru⟩ := hv.get (show (is.map V.int)[i]? = some (V.int is[i]) by rw [List.getElem?_map, List.getElem?_eq_getElem hi] <;> rfl)
    rw [hk'] at hu
    cases hu
    obtain ⟨t, e⟩ := ru
    exact ⟨is[i], t, List.getElem?_eq_getElem hi, e⟩
  have hda : ∀ {s' : Shared} {pins' : List (Addr × Obj)}, Inv X pins' σ H s' → s'.heap.get? a = some od := fun I => (I.hok a _ ha).1
  have pin3 : ∀ {s' : Shared} {oI oS : Obj}, Inv X pins σ H s' → s'.heap.get? I0 = some oI → s'.heap.get? S = some oS → (∀ v, oI.data ≠ .cell v) → (∀ v, oS.data ≠ .cell v) → Inv X (pins ++ [(I0, oI), (S, oS)]) σ H s' := fun {s' oI oS} I h1 h2 n1 n2 => I.pins_of fun p hp => by
    rcases List.mem_append.mp hp with z | z
    · exact I.pin p (List.mem_append_right _ z)
    · rcases List.mem_cons.mp z with z | z
      · rw [z]
        exact ⟨h1, OI.free, OI.loc, OI.fs, n1⟩
      · rw [List.mem_singleton.mp z]
        exact ⟨h2, OS.free, OS.loc, OS.fs, n2⟩
  have unpin : ∀ {s' : Shared} {pl : List (Addr × Obj)}, Inv X (pins ++ pl) σ H s' → Inv X pins σ H s' := fun I => I.unpinned
  intro r
  induction r with
  | zero =>
    intro j s' old c hr hj I hS hit hb
    have hjn : j = is.length := by omega
    subst hjn
    refine codeAny_builtin (A := X.A) PySem.F.entry_min_loop ?_
    rw [Around.under_plainId (A := X.A) PySem.F.plain_min_loop _]
    show wpAny _ X.A.in1 (seqItems? (.ref S) >>= _) _ _ _
    refine wpAny_bind (wpAny_seqItems (o := seqObj "list" old.toArray c) hS rfl ?_)
    show wpAny _ X.A.in1 (tryCatch (pyNext (.ref I0)) _ >>= _) _ _ _
    refine wpAny_bind (wpAny_tryCatch (W.done _ _ _ ⟨by rw [hsz]; exact hit, hdat _ (hda I)⟩ fun h' tk' hk' => ?_))
    have I1 : Inv X pins σ H { s' with heap := h', toks := tk' } := inv_touch I OI fun b o hb e => hk' b o (fun z => hb (List.mem_singleton.mp z)) e
    have hS1 : h'.get? S = some (seqObj "list" old.toArray c) := hk' S _ (fun z => hIS (List.mem_singleton.mp z).symm) hS
    rcases hb with ⟨_, e⟩ | ⟨i, m, t, t', rfl, hm, _, hle⟩
    · omega
    · show wpAny _ X.A.in1 (updateSeq S (fun _ => #[]) >>= _) _ _ _
      refine wpAny_bind (wpAny_updateSeq hS1 rfl (wpAny_bind (wpAny_letGo (wpAny_pure ?_))))
      refine hR i m t _ hm (fun k n hn => ?_) (inv_touch (t' := tk') I1 OS fun b o hb e => ?_)
      · exact hle k (List.getElem?_eq_some_iff.mp hn).1 n hn
      · rw [Heap.get?_update_ne _ _ _ _ hb]
        exact e
  | succ r ih =>
    intro j s' old c hr hj I hS hit hb
    have hjn : j < is.length := by omega
    refine codeAny_builtin (A := X.A) PySem.F.entry_min_loop ?_
    rw [Around.under_plainId (A := X.A) PySem.F.plain_min_loop _]
    show wpAny _ X.A.in1 (seqItems? (.ref S) >>= _) _ _ _
    refine wpAny_bind (wpAny_seqItems (o := seqObj "list" old.toArray c) hS rfl ?_)
    show wpAny _ X.A.in1 (tryCatch (pyNext (.ref I0)) _ >>= _) _ _ _
    refine wpAny_bind (wpAny_tryCatch (W.item j _ _ _ (by rw [hsz]; exact hjn) ⟨hit, hdat _ (hda I)⟩ fun v h' tk' hP hst' hk' => ?_))
    obtain ⟨n, t, hn, rfl⟩ := hval j v hP
    have I1 : Inv X pins σ H { s' with heap := h', toks := tk' } := inv_touch I OI fun b o hb e => hk' b o (fun z => hb (List.mem_singleton.mp z)) e
    have hS1 : h'.get? S = some (seqObj "list" old.toArray c) := hk' S _ (fun z => hIS (List.mem_singleton.mp z).symm) hS
    obtain ⟨oI, hoI, hIr⟩ := id hst'.1
    have nI : ∀ v, oI.data ≠ .cell v := fun v z => by
      obtain ⟨_, hd⟩ := hIr
      rw [z] at hd
      cases hd
    have I2 := pin3 I1 hoI hS1 nI (fun v z => by cases z)
    show wpAny _ X.A.in1 (tryCatch (holding [.int n t] (call (.ref f) [.int n t])) _ >>= _) _ _ _
    refine wpAny_bind (wpAny_tryCatch (wpAny_holding (wpAny_mono (turn _ _ n t (List.mem_of_getElem? hn) (List.mem_append_left _ hfp) I2) (fun x s'' he => ?_) fun _ _ hF => hF.elim)))
    obtain ⟨t2, rfl, I3⟩ := he
    have hI3 : s''.heap.get? I0 = some oI := (I3.pin (I0, oI) (List.mem_append_right _ (List.mem_append_right _ List.mem_cons_self))).1
    have hS3 : s''.heap.get? S = some (seqObj "list" old.toArray c) := (I3.pin (S, _) (List.mem_append_right _ (List.mem_append_right _ (List.mem_cons_of_mem _ List.mem_cons_self)))).1
    have hit3 : s''.heap.IsListIter I0 a (j + 1) := ⟨oI, hI3, hIr⟩
    have I4 := unpin I3
    have again : ∀ (s4 : Shared) (i : Nat) (m : Int) (tm tm' : Tok) (c' : Nat), Inv X pins σ H s4 → s4.heap.get? S = some (seqObj "list" #[.int m tm, .int (g m) tm'] c') → s4.heap.IsListIter I0 a (j + 1) → is[i]? = some m → i < j + 1 → (∀ k, k < j + 1 → ∀ n, is[k]? = some n → g m ≤ g n ∧ (k < i → g m < g n)) →
        codeAny (model X.prog X.w) X.A (.builtin "min.loop" ⟨[.ref I0, .ref f, .ref S], []⟩) R s4 := fun s4 i m tm tm' c' J1 J2 J3 J4 J5 J6 =>
      ih (j + 1) s4 [.int m tm, .int (g m) tm'] c' (by omega) (by omega) J1 J2 J3 (.inr ⟨i, m, tm, tm', rfl, J4, J5, J6⟩)
    have put : ∀ (s4 : Shared), Inv X pins σ H s4 → s4.heap.get? S = some (seqObj "list" old.toArray c) → s4.heap.IsListIter I0 a (j + 1) → (∀ k, k < j + 1 → ∀ n', is[k]? = some n' → g n ≤ g n' ∧ (k < j → g n < g n')) →
        ∀ tk4, codeAny (model X.prog X.w) X.A (.builtin "min.loop" ⟨[.ref I0, .ref f, .ref S], []⟩) R { s4 with heap := s4.heap.update S (Obj.mapSeq fun _ => #[.int n t, .int (g n) t2]), toks := tk4 } := fun s4 J1 J2 J3 J4 tk4 => by
      refine again _ j n t t2 _ (inv_touch (t' := tk4) J1 OS fun b o hb e => ?_) (get?_update_seq J2 fun _ => #[.int n t, .int (g n) t2]) ?_ hn (Nat.lt_succ_self _) J4
      · rw [Heap.get?_update_ne _ _ _ _ hb]
        exact e
      · obtain ⟨o, e, r⟩ := J3
        refine ⟨o, ?_, r⟩
        show (s4.heap.update S _).get? I0 = some o
        rw [Heap.get?_update_ne _ _ _ _ hIS]
        exact e
    rcases hb with ⟨rfl, e0⟩ | ⟨i, m, tm, tm', rfl, hm, hij, hle⟩
    · subst e0
      show wpAny _ X.A.in1 (updateSeq S (fun _ => #[.int n t, .int (g n) t2]) >>= _) _ _ _
      refine wpAny_bind (wpAny_updateSeq hS3 rfl ?_)
      rw [loopName]
      refine wpAny_pure ⟨plainId_quiet PySem.F.plain_min_loop _, put s'' I4 hS3 hit3 (fun k hk n' hn' => ?_) s''.toks⟩
      have : k = 0 := by omega
      rw [this, hn] at hn'
      cases hn'
      exact ⟨Int.le_refl _, fun z => by omega⟩
    · show wpAny _ X.A.in1 (tryCatch (holding [.int n t, .int (g n) t2] (richCompare .Lt (.int (g n) t2) (.int (g m) tm') >>= _)) _ >>= _) _ _ _
      refine wpAny_bind (wpAny_tryCatch (wpAny_holding (wpAny_bind (CmpOf.ints_lt (prog := X.prog) (w := X.w) (A := X.A.in1) (P := fun i v => ∃ t, v = .int (if i = 0 then g n else g m) t) (fun i => if i = 0 then g n else g m) (fun i v h => h) 0 1 _ _ _ _ _ ⟨t2, rfl⟩ ⟨tm', rfl⟩ ?_))))
      refine wpAny_bind (wpAny_holding (wpAny_truthy_bool ?_))
      refine wpAny_bind (wpAny_letGo (wpAny_pure ?_))
      change wpAny _ _ (if decide (g n < g m) = true then _ else _) _ _ _
      by_cases hb' : g n < g m
      · simp only [hb', decide_true, if_true]
        refine wpAny_bind (wpAny_updateSeq hS3 rfl (wpAny_bind (wpAny_letGo ?_)))
        rw [loopName]
        refine wpAny_pure ⟨plainId_quiet PySem.F.plain_min_loop _, put s'' I4 hS3 hit3 (fun k hk n' hn' => ?_) _⟩
        by_cases e : k = j
        · rw [e, hn] at hn'
          cases hn'
          exact ⟨Int.le_refl _, fun z => by omega⟩
        · have := (hle k (by omega) n' hn').1
          exact ⟨by omega, fun _ => by omega⟩
      · simp only [hb', decide_false, Bool.false_eq_true, if_false]
        refine wpAny_bind (wpAny_letGo ?_)
        rw [loopName]
        refine wpAny_pure ⟨plainId_quiet PySem.F.plain_min_loop _, again _ i m tm tm' c I4 hS3 hit3 hm (by omega) (fun k hk n' hn' => ?_)⟩
        by_cases e : k = j
        · rw [e, hn] at hn'
          cases hn'
          exact ⟨by omega, fun z => by omega⟩
        · exact hle k (by omega) n' hn'
theorem minL_run {s : Shared} {a f : Addr} {od fo : Obj} {is : List Int} {g : Int → Int} {Q : VK}
    (hc : X.calm = true) (I : Inv X pins σ H s) (ha : H a = some (.frz od (.lst (is.map V.int)))) (hne : is ≠ []) (hfp : (f, fo) ∈ pins)
    (turn : KeyTurn X σ H f fo is g) (q : ∀ (i : Nat) (m : Int), is[i]? = some m → (∀ (k : Nat) (n : Int), is[k]? = some n → g m ≤ g n ∧ (k < i → g m < g n)) → Q (.int m) H) :
    wpAny (model X.prog X.w) X.A (call (.builtin "min") [.ref a] [(Str.ofString "key", .ref f)]) (EP X pins σ Q) X.xe s := by
  have loopName : (toString "min" ++ toString ".loop" : String) = "min.loop" := by decide
  obtain ⟨hoa, hz, its, nn, rel, e0⟩ := I.hok a _ ha
  have hls : ∀ h : Heap, h.get? a = some od → h.IsList a its.toArray := fun h e => by
    rw [hoa] at e0
    cases e0
    exact ⟨_, e, rfl, nn, rfl⟩
  have hpos : 0 < is.length := List.length_pos_iff.mpr hne
  have hlt : a < s.heap.objs.size := Heap.lt_size hoa
  refine kmk_tree PySem.F.kind_min PySem.F.plain_min PySem.F.entry_min (kmk_min_key (.ref a) (.ref f)) ?_
  show wpAny _ X.A.in1 (Builtin.Builtins.bindParams "min" ["key", "default"] 0 ⟨[], [(Str.ofString "key", .ref f)]⟩ >>= _) _ _ s
  refine wpAny_bind (wpAny_of_eq (show Builtin.Builtins.bindParams "min" ["key", "default"] 0 ⟨[], [(Str.ofString "key", .ref f)]⟩ = pure [some (.ref f), none] from rfl) ?_)
  refine wpAny_bind (wpAny_pure ?_)
  refine wpAny_bind (wpAny_pyIter_list (hls _ hoa) ?_)
  refine wpAny_bind (wpAny_newList ?_ (Nat.zero_le _))
  rw [loopName]
  refine wpAny_pure ⟨plainId_quiet PySem.F.plain_min_loop _, ?_⟩
  generalize hoI : ({ cls := Value.type "list_iterator", data := Data.fields _ } : Obj) = oI
  have OI : Ours X pins H s.heap.objs.size := ours_new I (Nat.le_refl _)
  have hS : (s.heap.push oI).objs.size = s.heap.objs.size + 1 := size_push' ..
  have OS : Ours X pins H (s.heap.push oI).objs.size := ours_new I (by rw [hS]; exact Nat.le_succ _)
  have I1 : Inv X pins σ H { s with heap := (s.heap.push oI).push (seqObj "list" #[] 0) } := I.kept (t' := s.toks) fun b o e => Heap.get?_push_of_some _ (Heap.get?_push_of_some _ e)
  refine minL_loop (pins := pins) (I.ok.hd hc) ha rel hls hpos OI OS (by rw [hS]; exact Nat.ne_of_lt (Nat.lt_succ_self _)) (Nat.ne_of_lt hlt) hfp turn (fun i m t s' hm hle I' => ⟨.int m, H, I', ⟨t, rfl⟩, q i m hm hle⟩)
    _ 0 _ [] 0 rfl (Nat.zero_le _) I1 (Heap.get?_push_size _ rfl) ?_ (.inl ⟨rfl, rfl⟩)
  exact ⟨oI, Heap.get?_push_of_some _ (Heap.get?_push_size _ (by rw [← hoI] <;> rfl)), by rw [← hoI], by rw [← hoI] <;> rfl⟩
end
/-! ### min(l, key=lambda x: ..) -/
def MinAskL (T : List (Addr × Str)) (N : List Str) (js : List Nat) (tb : TE) (σ : L2.St) (Q : VK) (vs : List V) (H1 : Hp) : Prop := Tabs T H1 ∧
  ∃ (a : Addr) (od : Obj) (is : List Int) (g : Int → Int), vs = [.ref a] ∧ H1 a = some (.frz od (.lst (is.map V.int))) ∧ is ≠ [] ∧
    ∀ H2, ExtN H1 H2 → Tabs T H2 → (∀ n ∈ is, tb (startF N [.int n] (js.map (slotAt σ))) H2 fun v H3 => v = .int (g n) ∧ H3 = H2) ∧ ∀ (i : Nat) (m : Int), is[i]? = some m → (∀ (k : Nat) (n : Int), is[k]? = some n → g m ≤ g n ∧ (k < i → g m < g n)) → Q (.int m) H2
def tMinKeyL (T : List (Addr × Str)) (N : List Str) (js : List Nat) (ta : TA) (tb : TE) : TE := fun σ H Q => ta σ H (MinAskL T N js tb σ Q)
section
variable {X : Cx}
theorem pe_minKeyL {T : List (Addr × Str)} {c P : Addr} {k : Nat} {params : Arguments} {be e : Expr} {scope : Scope} {x : Str} {fr : List Str} {N : List Str} {js : List Nat} {ta : TA} {tb : TE} {p lpos kpos pos : Pos}
    (hcalm : X.calm = true) (hg : Gl X "min") (hm : X.mg "min" = none) (TB : TabB X.base X.mg c P) (hcode : X.env.code = .ref c) (hmT : (P, X.env.qual ++ "<lambda>") ∈ T) (hu : ∀ p ∈ T, p.1 = P → p.2 = X.env.qual ++ "<lambda>")
    (hr : Room (k + 2) X.A) (hdef : defaultsOf params X.env = ([], [])) (S : NScope N [x] fr scope) (hfree : ∀ y ∈ scope.names, y.2 = .free → X.env.scope.names.lookup y.1 = some .cell ∨ X.env.scope.names.lookup y.1 = some .free)
    (hfr : ∀ y ∈ fr, (y, NameKind.free) ∈ scope.names) (hjs : js.map (fun j => X.N[j]?) = fr.map some)
    (hb : ∀ (q : Str) (cl : List (Str × Addr)) (pm cv ctv u : Value), bindArgs (PySem.W.kla_fn "<lambda>" q params be scope cl pm cv ctv) ⟨[u], []⟩ = pure [(x, u)])
    (hpa : PA X [e] ta) (hbody : ∀ (A : Around) (outer : List Env) (s : Shared) (H : Hp) (f c' : Addr), Room k (A.deeper (envF (lamF X params scope c') f s.heap.objs.size)) → PE (ncx CX0 X.prog X.w X.K X.mg X.base N (lamF X params scope c') f A outer s H E0) be tb)
    (hs1 : backTo pos (starEach [e] X.env) = (false, eval e X.env) :: backTo pos (starEach [] X.env) := by rfl) (hpl : (backTo pos (starEach [e] X.env)).any (·.1) = false := by rfl)
    (hall : (backToKw pos (keywordEach [⟨some "key", .Lambda params be scope lpos, kpos⟩] X.env)).all (·.1.isSome) = true := by rfl) (hkn : (backToKw pos (keywordEach [⟨some "key", .Lambda params be scope lpos, kpos⟩] X.env)).any (·.1.isNone) = false := by rfl)
    (hks : (backToKw pos (keywordEach [⟨some "key", .Lambda params be scope lpos, kpos⟩] X.env)).filterMap (·.1) = [Str.ofString "key"] := by rfl) :
    PE X (.Call (.Name "min" p) [e] [⟨some "key", .Lambda params be scope lpos, kpos⟩] pos) (tMinKeyL T N js ta tb) := by
  refine ⟨fun pins s σ H Q I h => ?_⟩
  refine wpAny_Call_Name_kw (ld_blt I hg hm PyProof.Rows.boot_min ?_ (by decide) (by decide))
  refine PyProof.Rows.callWith_kw (thn (hpa.run pos pins s σ H _ I h) fun us s1 ⟨vs, H1, I1, r1, hT, a, od, is, g, ev, ha, hne, rest⟩ => ?_) hs1 hpl hall hkn
  subst ev
  rw [hks]
  obtain rfl := Vals.ref1 r1
  have hf : ∀ y ∈ scope.names, y.2 = .free → ∃ c, X.env.cells.lookup y.1 = some c := fun y hy e => (hfree y hy e).elim (fun z => I1.ok.has _ (.inl z)) fun z => I1.ok.has _ (.inr z)
  show wpAny _ _ (evalAll ((do let v ← eval (.Lambda params be scope lpos) X.env; standAt pos; pure v) :: [])) _ _ s1
  refine wpAny_evalAll_cons (wpAny_bind (lam_make2 I1 TB hcode hmT hu hT hdef hf fun f c' pm ctv H2 s2 I2 eN T2 of1 fn1 fst1 co1 => wpAny_bind (wpAny_standAt (wpAny_pure (wpAny_evalAll_nil ?_)))))
  obtain ⟨hbody', q⟩ := rest H2 eN T2
  have fsub : ∀ b ∈ X.fs, b ∈ frs X.stack := fun b hb => by
    rcases I2.ok.stk with e | ⟨e, hfr⟩
    · rw [e]
      exact hb
    · rw [e]
      unfold frs
      rw [List.filterMap_cons, hfr]
      exact List.mem_cons_of_mem _ hb
  have nloc : f ≠ X.env.locals := fun e => by
    obtain ⟨m, ⟨o, es, ep, ho, hd, _⟩, _⟩ := I2.loc
    rw [← e, of1] at ho
    cases ho
    cases hd
  have I3 : Inv X (pins ++ [(f, PySem.W.kla_obj "<lambda>" (X.env.qual ++ "<lambda>") params be scope (cloFrom X.env.cells scope.names []) pm c' ctv)]) σ H2 s2 := I2.pins_of fun p hp => by
    rcases List.mem_append.mp hp with z | z
    · exact I2.pin p (List.mem_append_right _ z)
    · rw [List.mem_singleton.mp z]
      exact ⟨of1, fn1, nloc, fun z => fst1 (fsub _ z), fun v z => by cases z⟩
  have ha2 : H2 a = some (.frz od (.lst (is.map V.int))) := eN a _ ha fun ps z => by cases z
  refine wpAny_mono (minL_run (Q := Q) hcalm I3 ha2 hne (List.mem_append_right _ List.mem_cons_self) (fun pins' s' n t hn hfp I' => ?_) q) (fun u s' ⟨v, H', J, rv, z⟩ => ⟨v, H', J.unpinned, rv, z⟩) fun _ _ z => z
  have ho' := (I'.pin (f, _) (List.mem_append_right _ hfp)).1
  have hcr : s'.heap.CodeRec (.ref c') (X.env.qual ++ "<lambda>") := codeO_at I'.hok co1
  have hcells := cells_of I' (Caps.made (js := js) I'.ok hfree hfr hjs)
  have run := lam_run (F := lamF X params scope c') (us := [.int n t]) (vs := [.int n]) (k := k) S (hb _ _ _ _ _ _) hr.in1 I'.env0.in1 ho' hcr hcells (.cons ⟨t, rfl⟩ .nil) rfl (hbody _ _ _ _ _ _ (hr.in1.deeper _)) (hbody' n hn)
  refine wpAny_call (codeAny_mono run fun r s'' hq => ?_)
  cases r with
  | error e => exact (show False from hq).elim
  | ok fl =>
    cases fl with
    | ret u =>
      obtain ⟨v, H3, J, rv, ev, eH⟩ := I'.after hq
      subst ev eH
      obtain ⟨t', eu⟩ := rv
      exact ⟨t', eu, J⟩
    | next => exact False.elim hq
    | brk => exact False.elim hq
    | cont => exact False.elim hq
end
end Gf
set_option Elab.async false
set_option linter.all false
set_option maxRecDepth 100000
set_option maxHeartbeats 2000000
namespace Gf
open PySem PySem.Spec PyProof.Rows L2 LamX NdefX
/-! ### sorted(l, key=f), the keys new pairs of ints -/
def leP (k1 k2 : Int → Int) (p q : Int) : Bool := decide (k1 p < k1 q ∨ (k1 p = k1 q ∧ k2 p ≤ k2 q))
section
variable {X : Cx} {pins : List (Addr × Obj)} {σ : L2.St} {H : Hp} {s : Shared}
theorem Ours.at {H' : Hp} {b : Addr} (O : Ours X pins H b) (h : H' b = none) : Ours X pins H' b := ⟨h, O.new, O.loc, O.cell, O.pin, O.fs⟩
/-- one of ours is tracked, another may have changed -/
theorem inv_track {a b : Addr} {o : HO} {h' : Heap} {t' : Nat} (I : Inv X pins σ H s) (OA : Ours X pins H a) (OB : Ours X pins H b) (k : ∀ c o, c ≠ a → c ≠ b → s.heap.get? c = some o → h'.get? c = some o)
    (new : ObjOk X.prog X.w (upd H a o) h' a o) : Inv X pins σ (upd H a o) { s with heap := h', toks := t' } := by
  have nab : ∀ c, c ∉ [a, b] → c ≠ a ∧ c ≠ b := fun c hc => ⟨fun e => hc (by rw [e]; simp), fun e => hc (by rw [e]; simp)⟩
  have hok : HOk X.prog X.w (upd H a o) h' := fun c u e => by
    by_cases hc : c = a
    · subst hc
      rw [upd_same] at e
      cases e
      exact new
    · rw [upd_ne hc] at e
      refine (I.hok c u e).stay (fun d v hd q => ?_) (fun d q => by rw [upd_ne (ne_of_none q OA.free)]; exact q) fun d xs q => by rw [upd_ne (ne_of_none q OA.free)]; exact q
      have ne : ∀ z, H z = none → d ≠ z := fun z hz q2 => by
        rcases hd with r | r
        · rw [← r, q2, hz] at e
          cases e
        · rw [q2, hz] at r
          cases r
      exact k d v (ne a OA.free) (ne b OB.free) q
  refine I.call (ch := [a, b]) ⟨fun c o q _ _ hx => k c o (nab c hx).1 (nab c hx).2 q, fun c o q _ _ hx => ⟨o.slots, k c o (nab c hx).1 (nab c hx).2 q⟩, fun c _ _ n hx => ?_, fun c o q hx => ⟨o, k c o (nab c hx).1 (nab c hx).2 q⟩, fun c xs q => ?_, fun c _ _ q => ?_, fun c ps q => ⟨#[], ?_⟩⟩ hok I.bare fun c hc => ?_
  · rw [upd_ne (nab c hx).1]
    exact n
  · rw [upd_ne (ne_of_none q OA.free)]
    exact q
  · rw [upd_ne (ne_of_none q OA.free)]
    exact q
  · rw [upd_ne (ne_of_none q OA.free), q, Array.append_empty]
  · rcases List.mem_cons.mp hc with e | hc
    · rw [e]
      exact ⟨.inr OA.new, OA.loc, OA.cell, OA.pin⟩
    · rw [List.mem_singleton.mp hc]
      exact ⟨.inr OB.new, OB.loc, OB.cell, OB.pin⟩
/-- what the key function does with one item: a new pair -/
def PairTurn (X : Cx) (σ : L2.St) (H : Hp) (f : Addr) (fo : Obj) (is : List Int) (k1 k2 : Int → Int) : Prop :=
  ∀ (pins' : List (Addr × Obj)) (s' : Shared) (H' : Hp) (n : Int) (t : Tok), Same H H' → n ∈ is → (f, fo) ∈ pins' → Inv X pins' σ H' s' →
    wpAny (model X.prog X.w) X.A.in1.in1 (call (.ref f) [.int n t]) (fun x s'' => ∃ p, x = .ref p ∧ H' p = none ∧ Inv X pins' σ (upd H' p (.tup [.int (k1 n), .int (k2 n)])) s'') (fun _ _ => False) s'
theorem sort_run {a f : Addr} {fo : Obj} {is : List Int} {k1 k2 : Int → Int} {Q : VK} (hun : X.A.units + 10 < cLine)
    (I : Inv X pins σ H s) (hl : SqL X.K H a (is.map V.int)) (hfp : (f, fo) ∈ pins) (turn : PairTurn X σ H f fo is k1 k2)
    (q : ∀ (H' : Hp) (p : Addr), Same H H' → H' p = none → Q (.ref p) (upd H' p (.lst ((is.mergeSort (leP k1 k2)).map V.int)))) :
    wpAny (model X.prog X.w) X.A (call (.builtin "sorted") [.ref a] [(Str.ofString "key", .ref f)]) (EP X pins σ Q) X.xe s := by
  obtain ⟨its, rv, hpl, hz⟩ := I.list hl
  have hilen : its.length = is.length := by
    have e := rv.length
    rw [List.length_map] at e
    exact e.symm
  have hz' : its.length ≤ sizeLine := by rw [← rv.length]; exact hz
  have hval : ∀ (i : Nat) (v : Value), its[i]? = some v → ∃ n t, is[i]? = some n ∧ v = Value.int n t := fun i v hk' => by
    have hi : i < is.length := by rw [← hilen]; exact (List.getElem?_eq_some_iff.mp hk').1
    obtain ⟨u, hu, ru⟩ := rv.get (show (is.map V.int)[i]? = some (V.int is[i]) by rw [List.getElem?_map, List.getElem?_eq_getElem hi] <;> rfl)
    rw [hk'] at hu
    cases hu
    obtain ⟨t, e⟩ := ru
    exact ⟨is[i], t, List.getElem?_eq_getElem hi, e⟩
  refine PySem.W.sorted_of_sort hpl.isList hz' (PyProof.Rows.ksk_s1 _ _) (fun _ => PyProof.Rows.ksk_l1 _ _) fun E' => ?_
  rw [PyProof.Rows.ksk_t1]
  generalize hA : s.heap.objs.size + 1 = A1
  have hoA : (PySem.W.copyHeap s.heap its).get? A1 = some (seqObj "list" its.toArray 0) := by
    rw [← hA]
    exact PySem.W.copyHeap_at s.heap its
  obtain ⟨e1, ho1⟩ : ∃ e1, ((PySem.W.copyHeap s.heap its).update A1 (Obj.mapSeq fun _ => (#[] : Array Value))).get? A1 = some (seqObj "list" #[] e1) := ⟨_, get?_update_seq hoA fun _ => #[]⟩
  unfold PyProof.Rows.ksk_tree
  refine wpAny_bind (listItems_at hoA rfl ?_)
  refine wpAny_bind (listUpdate_at hoA rfl ?_ (by rw [List.size_toArray]; exact hz') (Nat.zero_le _))
  refine wpAny_bind (seqEpoch_at ho1 rfl ?_)
  refine wpAny_bind (wpAny_newTuple ?_ (by show its.length ≤ _; exact hz'))
  refine wpAny_bind (wpAny_newList ?_ (Nat.zero_le _))
  refine wpAny_holding ?_
  have hsz1 : (PySem.W.copyHeap s.heap its).objs.size = s.heap.objs.size + 2 := by
    unfold PySem.W.copyHeap
    rw [size_push', Heap.size_update, size_push']
  have hsz2 : (((PySem.W.copyHeap s.heap its).update A1 (Obj.mapSeq fun _ => (#[] : Array Value))).push (seqObj "tuple" its.toArray 0)).objs.size = s.heap.objs.size + 3 := by
    rw [size_push', Heap.size_update, hsz1]
  generalize hK : (((PySem.W.copyHeap s.heap its).update A1 (Obj.mapSeq fun _ => (#[] : Array Value))).push (seqObj "tuple" its.toArray 0)).objs.size = K1 at hsz2 ⊢
  have hAK : K1 ≠ A1 := by omega
  have hold : ∀ b o, s.heap.get? b = some o → ((((PySem.W.copyHeap s.heap its).update A1 (Obj.mapSeq fun _ => (#[] : Array Value))).push (seqObj "tuple" its.toArray 0)).push (seqObj "list" #[] 0)).get? b = some o := fun b o e => by
    have hb : b ≠ A1 := fun z => by
      have h := Heap.lt_size e
      rw [z, ← hA] at h
      exact Nat.lt_irrefl _ (Nat.lt_of_succ_lt h)
    refine Heap.get?_push_of_some _ (Heap.get?_push_of_some _ ?_)
    rw [Heap.get?_update_ne _ _ _ _ hb]
    exact PySem.W.copyHeap_old e
  have I1 : Inv X pins σ H { s with heap := (((PySem.W.copyHeap s.heap its).update A1 (Obj.mapSeq fun _ => (#[] : Array Value))).push (seqObj "tuple" its.toArray 0)).push (seqObj "list" #[] 0) } := I.kept (t' := s.toks) hold
  have nk0 : ((((PySem.W.copyHeap s.heap its).update A1 (Obj.mapSeq fun _ => (#[] : Array Value))).push (seqObj "tuple" its.toArray 0)).push (seqObj "list" #[] 0)).get? K1 = some (seqObj "list" #[] 0) := by
    rw [← hK]
    exact Heap.get?_push_size _ rfl
  have na0 : ((((PySem.W.copyHeap s.heap its).update A1 (Obj.mapSeq fun _ => (#[] : Array Value))).push (seqObj "tuple" its.toArray 0)).push (seqObj "list" #[] 0)).get? A1 = some (seqObj "list" #[] e1) := Heap.get?_push_of_some _ (Heap.get?_push_of_some _ ho1)
  have OA : Ours X pins H A1 := ours_new I (by omega)
  have OK : Ours X pins H K1 := ours_new I (by omega)
  generalize hs1 : ({ s with heap := (((PySem.W.copyHeap s.heap its).update A1 (Obj.mapSeq fun _ => (#[] : Array Value))).push (seqObj "tuple" its.toArray 0)).push (seqObj "list" #[] 0) } : Shared) = s1 at I1
  have nk1 : s1.heap.get? K1 = some (seqObj "list" #[] 0) := by rw [← hs1]; exact nk0
  have na1 : s1.heap.get? A1 = some (seqObj "list" #[] e1) := by rw [← hs1]; exact na0
  clear hs1 nk0 na0 hold
  unfold PyProof.Rows.ksk_rest
  refine wpAny_bind (wpAny_rule ?_)
  first
    | rw [List.forIn_toArray]
    | (rw [← Array.forIn_toList]; simp only [List.toList_toArray])
    | rw [← Array.forIn_toList]
  refine wpAny_bind (ksk_fold (fun i s' => ∃ (H' : Hp) (kA : Array Value) (e : Nat) (ts : List Addr), Inv X pins σ H' s' ∧ Same H H' ∧ s'.heap.get? K1 = some (seqObj "list" kA e) ∧ s'.heap.get? A1 = some (seqObj "list" #[] e1) ∧ H' K1 = none ∧ H' A1 = none ∧
      kA.toList = ts.map Value.ref ∧ ts.length = i ∧ ∀ (j : Nat) (t : Addr) (n : Int), ts[j]? = some t → is[j]? = some n → H' t = some (.tup [.int (k1 n), .int (k2 n)])) its 0 s1
    ⟨H, #[], 0, [], I1, Same.refl H, nk1, na1, OK.free, OA.free, rfl, rfl, fun j t n h => by simp at h⟩ ?step ?done)
  case step =>
    rintro j x s' hx ⟨H', kA, e, ts, I', sm, nk', na', fk, fa, ek, etl, ht⟩
    simp only [Nat.zero_add] at etl ⊢
    have hj : j < its.length := (List.getElem?_eq_some_iff.mp hx).1
    obtain ⟨n, t, hn, rfl⟩ := hval j x hx
    have hkz : kA.size ≤ its.length := by
      have h1 := congrArg List.length ek
      rw [Array.length_toList, List.length_map] at h1
      omega
    have OK' := OK.at fk
    have OA' := OA.at fa
    have I2 : Inv X (pins ++ [(K1, seqObj "list" kA e), (A1, seqObj "list" #[] e1)]) σ H' s' := I'.pins_of fun p hp => by
      rcases List.mem_append.mp hp with z | z
      · exact I'.pin p (List.mem_append_right _ z)
      · rcases List.mem_cons.mp z with z | z
        · rw [z]
          exact ⟨nk', OK'.free, OK'.loc, OK'.fs, fun v z => by cases z⟩
        · rw [List.mem_singleton.mp z]
          exact ⟨na', OA'.free, OA'.loc, OA'.fs, fun v z => by cases z⟩
    refine wpAny_bind (wpAny_attempt (wpAny_mono (turn _ s' H' n t sm (List.mem_of_getElem? hn) (List.mem_append_left _ hfp) I2) (fun v s'' he => ?_) fun _ _ hF => hF.elim))
    obtain ⟨p, rfl, np, I3⟩ := he
    try dsimp only
    have pk := I3.pin (K1, _) (List.mem_append_right _ (List.mem_append_right _ List.mem_cons_self))
    have pa := I3.pin (A1, _) (List.mem_append_right _ (List.mem_append_right _ (List.mem_cons_of_mem _ List.mem_cons_self)))
    have I4 : Inv X pins σ (upd H' p (.tup [.int (k1 n), .int (k2 n)])) s'' := I3.unpinned
    have nk3 : s''.heap.get? K1 = some (seqObj "list" kA e) := pk.1
    have na3 : s''.heap.get? A1 = some (seqObj "list" #[] e1) := pa.1
    obtain ⟨c2, hc2⟩ : ∃ c2, (s''.heap.update K1 (Obj.mapSeq (·.push (Value.ref p)))).get? K1 = some (seqObj "list" (kA.push (Value.ref p)) c2) := ⟨_, get?_update_seq nk3 (·.push (Value.ref p))⟩
    refine wpAny_bind (listUpdate_at nk3 rfl ?_ (Nat.le_trans hkz hz') (Nat.le_trans (Nat.le_of_eq (Array.size_push ..)) (Nat.succ_le_succ (Nat.le_trans hkz hz'))))
    have sm2 : Same H' (upd H' p (.tup [.int (k1 n), .int (k2 n)])) := fun b x q => by
      rw [upd_ne (ne_of_none q np)]
      exact q
    refine wpAny_pure ⟨rfl, upd H' p (.tup [.int (k1 n), .int (k2 n)]), kA.push (.ref p), c2, ts ++ [p], ?_, fun b x q => sm2 b x (sm b x q), hc2, ?_, pk.2.1, pa.2.1, ?_, ?_, ?_⟩
    · exact inv_touch (t' := s''.toks) I4 (OK.at pk.2.1) fun b o hb q => (Heap.get?_update_ne _ _ _ _ hb).trans q
    · exact (Heap.get?_update_ne _ _ _ _ (Ne.symm hAK)).trans na3
    · rw [Array.toList_push, ek, List.map_append]
      rfl
    · rw [List.length_append, etl]
      rfl
    · intro j' t' n' h1 h2
      by_cases hlt : j' < ts.length
      · rw [List.getElem?_append_left hlt] at h1
        exact sm2 _ _ (ht j' t' n' h1 h2)
      · have hl' := (List.getElem?_eq_some_iff.mp h1).1
        rw [List.length_append] at hl'
        have hl2 : j' < ts.length + 1 := hl'
        have ej : j' = ts.length := by omega
        rw [List.getElem?_append_right (by omega), ej, Nat.sub_self] at h1
        cases h1
        rw [ej, etl, hn] at h2
        cases h2
        exact upd_same
  case done =>
    rintro s' ⟨H', kA, e, ts, I', sm, nk', na', fk, fa, ek, etl, ht⟩
    have etl' : ts.length = its.length := by omega
    have hkey : PySem.W.EachIs (fun v k => ∃ as, Reads s'.heap v k as) kA.toList (is.map fun n => PyData.tuple [.int (k1 n), .int (k2 n)]) := by
      refine PySem.W.EachIs.of_zip (by rw [ek, List.length_map, List.length_map]; omega) fun p hp => ?_
      obtain ⟨j, hj⟩ := List.mem_iff_getElem?.mp hp
      rw [List.getElem?_zip_eq_some, ek, List.getElem?_map, List.getElem?_map] at hj
      obtain ⟨h1, h2⟩ := hj
      obtain ⟨t, ht1, ht2⟩ := Option.map_eq_some_iff.mp h1
      obtain ⟨n, hn1, hn2⟩ := Option.map_eq_some_iff.mp h2
      obtain ⟨_, its2, r2, o, ho, hc, nn, hd⟩ := I'.hok _ _ (ht j t n ht1 hn1)
      obtain ⟨u1, u2, e2, ri, rj⟩ := vals2 r2
      obtain ⟨t1, rfl⟩ := ri
      obtain ⟨t2, rfl⟩ := rj
      rw [← ht2, ← hn2]
      have z : ReadsAll s'.heap its2 [.int (k1 n), .int (k2 n)] ([] ++ ([] ++ [])) := by
        rw [e2]
        exact .cons (.int _ _) (.cons (.int _ _) .nil)
      exact ⟨_, .tuple ho hc hd z⟩
    have hal : PySem.W.AllAlike (is.map fun n => PyData.tuple [.int (k1 n), .int (k2 n)]) := PySem.W.AllAlike.of fun b b' => rfl
    have hsk : PySem.W.Sortable (is.map fun n => PyData.tuple [.int (k1 n), .int (k2 n)]) := PySem.W.Sortable.tuples fun b => ⟨_, _, rfl⟩
    have hksz : kA.size = its.length := by
      have h1 := congrArg List.length ek
      rw [Array.length_toList, List.length_map] at h1
      omega
    try dsimp only
    refine wpAny_bind (listItems_at nk' rfl ?_)
    obtain ⟨G, g1, g2⟩ := restrict s'.heap fun b => decide (b ≠ K1)
    have gK : G.get? K1 = none := g2 K1 (decide_eq_false (fun z => z rfl))
    have gk : ∀ b o, b ≠ K1 → s'.heap.get? b = some o → G.get? b = some o := fun b o hb e => by
      rw [g1 b (decide_eq_true hb)]
      exact e
    have gb : ∀ b o, G.get? b = some o → s'.heap.get? b = some o := fun b o e => by
      by_cases hb : b = K1
      · rw [hb, gK] at e
        cases e
      · rw [g1 b (decide_eq_true hb)] at e
        exact e
    refine PySem.W.keyH_end (κ := PySem.W.dataKind s'.heap (is.map fun n => PyData.tuple [.int (k1 n), .int (k2 n)])) (h₁ := G) (fun b o _ q => gb b o q) gK nk' na' hAK (PySem.W.SortsAt.data (s := s') hkey hal hsk ?_) hksz hz' fun h3 tk3 c k3 n3 => ⟨rfl, ?_⟩
    · intro d hd
      obtain ⟨n, _, rfl⟩ := List.mem_map.mp hd
      show X.A.units + 1 + 1 + _ < cLine
      have hdep : (PyData.tuple [.int (k1 n), .int (k2 n)]).depth ≤ 5 := by
        first
          | decide
          | simp [PyData.depth, PyData.depthAll]
      omega
    · have ko : PySem.W.KeyedOut false (is.map fun n => PyData.tuple [.int (k1 n), .int (k2 n)]) its (PySem.W.sortVals (PySem.W.dataKind s'.heap (is.map fun n => PyData.tuple [.int (k1 n), .int (k2 n)])) false kA.toList its) := ⟨s'.heap, kA.toList, hal, rfl, hkey⟩
      have hR : PySem.W.EachIs (fun v n => ∃ t, v = Value.int n t) its is := PySem.W.EachIs.of_zip hilen fun p hp => by
        obtain ⟨j, hj⟩ := List.mem_iff_getElem?.mp hp
        rw [List.getElem?_zip_eq_some] at hj
        obtain ⟨n, t, h1, h2⟩ := hval j p.1 hj.1
        rw [hj.2] at h1
        cases h1
        exact ⟨t, h2⟩
      have hout := PySem.W.keyedOut_each (R := fun v n => ∃ t, v = Value.int n t) (fun n => PyData.tuple [.int (k1 n), .int (k2 n)]) ko hR
      rw [PySem.W.dataLe_ii] at hout
      generalize PySem.W.sortVals (PySem.W.dataKind s'.heap (is.map fun n => PyData.tuple [.int (k1 n), .int (k2 n)])) false kA.toList its = out at hout n3
      have vv : ∀ {vs : List Value} {ns : List Int}, PySem.W.EachIs (fun v n => ∃ t, v = Value.int n t) vs ns → Vals (ns.map V.int) vs := by
        intro vs ns h
        induction h with
        | nil => exact .nil
        | cons h1 _ ih => exact .cons h1 ih
      have hv : Vals ((is.mergeSort (leP k1 k2)).map V.int) out := vv hout
      have hlen : ((is.mergeSort (leP k1 k2)).map V.int).length ≤ sizeLine := by
        rw [List.length_map, List.length_mergeSort, ← hilen]
        exact hz'
      refine ⟨.ref A1, upd H' A1 (.lst ((is.mergeSort (leP k1 k2)).map V.int)), inv_track (t' := tk3) I' (OA.at fa) (OK.at fk) (fun b o h1 h2 q => k3 b o h1 (gk b o h2 q)) ⟨hlen, out, c, hv, n3⟩, rfl, q H' A1 sm fa⟩
end
/-! ### sorted(l, key=lambda x: (.., ..)) -/
def SortAsk (K : PySem.W.Frag) (T : List (Addr × Str)) (N : List Str) (js : List Nat) (tb : TE) (σ : L2.St) (Q : VK) (vs : List V) (H1 : Hp) : Prop := Tabs T H1 ∧
  ∃ (a : Addr) (is : List Int) (k1 k2 : Int → Int), vs = [.ref a] ∧ SqL K H1 a (is.map V.int) ∧
    ∀ H2, ExtN H1 H2 → Tabs T H2 → SqL K H2 a (is.map V.int) ∧ (∀ H3, Same H2 H3 → ∀ n ∈ is, tb (startF N [.int n] (js.map (slotAt σ))) H3 fun v H4 => ∃ p, v = .ref p ∧ H3 p = none ∧ H4 = upd H3 p (.tup [.int (k1 n), .int (k2 n)])) ∧
      ∀ (H3 : Hp) (p : Addr), Same H2 H3 → H3 p = none → Q (.ref p) (upd H3 p (.lst ((is.mergeSort (leP k1 k2)).map V.int)))
def tSortKey (K : PySem.W.Frag) (T : List (Addr × Str)) (N : List Str) (js : List Nat) (ta : TA) (tb : TE) : TE := fun σ H Q => ta σ H (SortAsk K T N js tb σ Q)
section
variable {X : Cx}
theorem pe_sortKey {T : List (Addr × Str)} {c P : Addr} {k : Nat} {params : Arguments} {be e : Expr} {scope : Scope} {x : Str} {fr : List Str} {N : List Str} {js : List Nat} {ta : TA} {tb : TE} {p lpos kpos pos : Pos}
    (hg : Gl X "sorted") (hm : X.mg "sorted" = none) (TB : TabB X.base X.mg c P) (hcode : X.env.code = .ref c) (hmT : (P, X.env.qual ++ "<lambda>") ∈ T) (hu : ∀ p ∈ T, p.1 = P → p.2 = X.env.qual ++ "<lambda>")
    (hr : Room (k + 3) X.A) (hdef : defaultsOf params X.env = ([], [])) (S : NScope N [x] fr scope) (hfree : ∀ y ∈ scope.names, y.2 = .free → X.env.scope.names.lookup y.1 = some .cell ∨ X.env.scope.names.lookup y.1 = some .free)
    (hfr : ∀ y ∈ fr, (y, NameKind.free) ∈ scope.names) (hjs : js.map (fun j => X.N[j]?) = fr.map some)
    (hb : ∀ (q : Str) (cl : List (Str × Addr)) (pm cv ctv u : Value), bindArgs (PySem.W.kla_fn "<lambda>" q params be scope cl pm cv ctv) ⟨[u], []⟩ = pure [(x, u)])
    (hpa : PA X [e] ta) (hbody : ∀ (A : Around) (outer : List Env) (s : Shared) (H : Hp) (f c' : Addr), Room k (A.deeper (envF (lamF X params scope c') f s.heap.objs.size)) → PE (ncx CX0 X.prog X.w X.K X.mg X.base N (lamF X params scope c') f A outer s H E0) be tb)
    (hs1 : backTo pos (starEach [e] X.env) = (false, eval e X.env) :: backTo pos (starEach [] X.env) := by rfl) (hpl : (backTo pos (starEach [e] X.env)).any (·.1) = false := by rfl)
    (hall : (backToKw pos (keywordEach [⟨some "key", .Lambda params be scope lpos, kpos⟩] X.env)).all (·.1.isSome) = true := by rfl) (hkn : (backToKw pos (keywordEach [⟨some "key", .Lambda params be scope lpos, kpos⟩] X.env)).any (·.1.isNone) = false := by rfl)
    (hks : (backToKw pos (keywordEach [⟨some "key", .Lambda params be scope lpos, kpos⟩] X.env)).filterMap (·.1) = [Str.ofString "key"] := by rfl) :
    PE X (.Call (.Name "sorted" p) [e] [⟨some "key", .Lambda params be scope lpos, kpos⟩] pos) (tSortKey X.K T N js ta tb) := by
  refine ⟨fun pins s σ H Q I h => ?_⟩
  refine wpAny_Call_Name_kw (ld_blt I hg hm PyProof.Rows.boot_sorted ?_ (by decide) (by decide))
  refine PyProof.Rows.callWith_kw (thn (hpa.run pos pins s σ H _ I h) fun us s1 ⟨vs, H1, I1, r1, hT, a, is, k1, k2, ev, ha, rest⟩ => ?_) hs1 hpl hall hkn
  subst ev
  rw [hks]
  obtain rfl := Vals.ref1 r1
  have hf : ∀ y ∈ scope.names, y.2 = .free → ∃ c, X.env.cells.lookup y.1 = some c := fun y hy e => (hfree y hy e).elim (fun z => I1.ok.has _ (.inl z)) fun z => I1.ok.has _ (.inr z)
  show wpAny _ _ (evalAll ((do let v ← eval (.Lambda params be scope lpos) X.env; standAt pos; pure v) :: [])) _ _ s1
  refine wpAny_evalAll_cons (wpAny_bind (lam_make2 I1 TB hcode hmT hu hT hdef hf fun f c' pm ctv H2 s2 I2 eN T2 of1 fn1 fst1 co1 => wpAny_bind (wpAny_standAt (wpAny_pure (wpAny_evalAll_nil ?_)))))
  obtain ⟨ha2, hbody', q⟩ := rest H2 eN T2
  have fsub : ∀ b ∈ X.fs, b ∈ frs X.stack := fun b hb => by
    rcases I2.ok.stk with e | ⟨e, hfr⟩
    · rw [e]
      exact hb
    · rw [e]
      unfold frs
      rw [List.filterMap_cons, hfr]
      exact List.mem_cons_of_mem _ hb
  have nloc : f ≠ X.env.locals := fun e => by
    obtain ⟨m, ⟨o, es, ep, ho, hd, _⟩, _⟩ := I2.loc
    rw [← e, of1] at ho
    cases ho
    cases hd
  have I3 : Inv X (pins ++ [(f, PySem.W.kla_obj "<lambda>" (X.env.qual ++ "<lambda>") params be scope (cloFrom X.env.cells scope.names []) pm c' ctv)]) σ H2 s2 := I2.pins_of fun p hp => by
    rcases List.mem_append.mp hp with z | z
    · exact I2.pin p (List.mem_append_right _ z)
    · rw [List.mem_singleton.mp z]
      exact ⟨of1, fn1, nloc, fun z => fst1 (fsub _ z), fun v z => by cases z⟩
  refine wpAny_mono (sort_run (Q := Q) (by have := hr.units; omega) I3 ha2 (List.mem_append_right _ List.mem_cons_self) (fun pins' s' H' n t sm hn hfp I' => ?_) q) (fun u s' ⟨v, H', J, rv, z⟩ => ⟨v, H', J.unpinned, rv, z⟩) fun _ _ z => z
  have ho' := (I'.pin (f, _) (List.mem_append_right _ hfp)).1
  have hcr : s'.heap.CodeRec (.ref c') (X.env.qual ++ "<lambda>") := codeO_at I'.hok (sm _ _ co1)
  have hcells := cells_of I' (Caps.made (js := js) I'.ok hfree hfr hjs)
  have run := lam_run (F := lamF X params scope c') (us := [.int n t]) (vs := [.int n]) (k := k) S (hb _ _ _ _ _ _) hr.in1.in1 I'.env0.in1.in1 ho' hcr hcells (.cons ⟨t, rfl⟩ .nil) rfl (hbody _ _ _ _ _ _ (hr.in1.in1.deeper _)) (hbody' H' sm n hn)
  refine wpAny_call (codeAny_mono run fun r s'' hq => ?_)
  cases r with
  | error e => exact (show False from hq).elim
  | ok fl =>
    cases fl with
    | ret u =>
      obtain ⟨v, H3, J, rv, p, ev, np, eH⟩ := I'.after hq
      subst ev eH
      obtain rfl : u = Value.ref p := rv
      exact ⟨p, rfl, np, J⟩
    | next => exact False.elim hq
    | brk => exact False.elim hq
    | cont => exact False.elim hq
end
end Gf
set_option Elab.async false
set_option linter.all false
set_option maxRecDepth 100000
set_option maxHeartbeats 2000000
namespace Gf
open PySem PySem.Spec PyProof.Rows L2
/-! ### xs.extend(t), t a tuple -/
theorem extend_tup {prog : Program} {w : World} {A : Around} {E : Value → Shared → Prop} {s : Shared} {Q : Value → Shared → Prop} {S it : Addr} {its0 items : Array Value} {c0 n : Nat} {o : Obj} (hS : s.heap.get? S = some { cls := .type "list", data := .seq its0 c0 })
    (ho : s.heap.get? it = some o) (hc : o.cls = .type "tuple") (hd : o.data = .seq items n) (hz : its0.size + items.size ≤ sizeLine) (hQ : Q .none { s with heap := s.heap.update S (Obj.mapSeq (· ++ items)) }) :
    wpAny (model prog w) A (call (.builtin "list.extend") [.ref S, .ref it]) Q E s := by
  refine wpAny_call_entry PySem.F.slot_list_extend ⟨_, hS, rfl⟩ PySem.F.entry_list_extend ?_ (PySem.F.args_list_extend_2 _ _)
  show wpAny _ A.in1 (Builtin.List.listExtendWith (.ref S) (.ref it) .none) _ _ _
  unfold Builtin.List.listExtendWith
  refine wpAny_bind (wpAny_typeOf ⟨o, ho, hc⟩ ?_)
  have h1 : (Builtin.List.listSameRef (.ref S) (.ref it) || Value.type "tuple" == Value.type "list" || Value.type "tuple" == Value.type "tuple") = true := by simp
  simp only [h1, if_true]
  refine wpAny_bind ?_
  unfold Builtin.List.listItems
  refine wpAny_bind (wpAny_seqItems ho hd (wpAny_pure ?_))
  refine wpAny_bind ?_
  refine wpAny_bind (wpAny_seqItems hS rfl (wpAny_pure ?_))
  have hl : (!its0.isEmpty && Builtin.List.listTooLong (its0.size + items.size)) = false := by
    rw [notLongL hz, Bool.and_false]
  simp only [hl, Bool.false_eq_true, if_false]
  refine wpAny_bind ?_
  refine wpAny_updateSeq hS rfl ?_ (by omega) (by rw [Array.size_append]; omega)
  exact wpAny_bind (wpAny_pure (wpAny_pure ⟨_, rfl, hQ⟩))
def rExtendT : V → List V → Hp → VK → Prop := fun x vs H Q => ∃ l b xs zs, x = .ref l ∧ vs = [.ref b] ∧ H l = some (.lst xs) ∧ H b = some (.tup zs) ∧ xs.length + zs.length ≤ sizeLine ∧ Q .non (upd H l (.lst (xs ++ zs)))
theorem mt_extendT {X : Cx} : MtM X "list.extend" rExtendT := by
  intro pins s σ H x vs v us Q I rx rv h
  obtain ⟨l, b, xs, zs, rfl, rfl, hH, hB, hz, q⟩ := h
  cases rx
  obtain ⟨u, rfl, ru⟩ := rv.one
  cases ru
  obtain ⟨z, its, n, r, hl, e⟩ := I.lstM hH
  obtain ⟨z2, its2, r2, o, ho, hc, n2, hd⟩ := I.hok _ _ hB
  have hl2 := r2.length
  refine extend_tup e ho hc hd (by rw [List.size_toArray, List.size_toArray]; omega) ?_
  refine ⟨.non, _, I.lset (its' := its ++ its2) hH e (by simp) (r.append r2) ?_, rfl, q⟩
  rw [List.length_append]
  omega
end Gf
set_option Elab.async false
set_option linter.all false
set_option maxRecDepth 100000
set_option maxHeartbeats 2000000
namespace Gf
open PySem PySem.Spec PyProof.Rows L2 LamX NdefX
/-! ### the text -/
def topS (i : Nat) : Stmt := PySem.Challenge.pw_goalfields_s01_answers.main.body.getD i (.Pass ⟨0, 0, 0, 0⟩)
abbrev sBeside : Stmt := topS 1
abbrev sReckonF : Stmt := topS 2
abbrev sOpenGoals : Stmt := topS 3
abbrev sNearest : Stmt := topS 4
/-! ### heaps -/
theorem same_upd {H : Hp} {p : Addr} {o : HO} (h : H p = none) : Same H (upd H p o) := fun b x e => by
  rw [upd_ne (ne_of_none e h)]
  exact e
theorem if_t {c : Bool} {A B : Prop} (hc : c = true) (h : A) : if c = true then A else B := by
  rw [if_pos hc]
  exact h
theorem if_f {c : Bool} {A B : Prop} (hc : c = false) (h : B) : if c = true then A else B := by
  rw [hc, if_neg Bool.false_ne_true]
  exact h
def nI (l : List Nat) : List V := l.map fun (n : Nat) => V.int (n : Int)
theorem nI_len (l : List Nat) : (nI l).length = l.length := List.length_map _
theorem nI_app (l r : List Nat) : nI (l ++ r) = nI l ++ nI r := List.map_append
/-! ### beside -/
theorem fmod_nat (i w : Nat) : Int.fmod (i : Int) (w : Int) = ((i % w : Nat) : Int) := by
  rw [Int.fmod_eq_emod_of_nonneg _ (Int.natCast_nonneg w)]
  rfl
theorem fdiv_nat (i w : Nat) : Int.fdiv (i : Int) (w : Int) = ((i / w : Nat) : Int) := by
  rw [Int.fdiv_eq_ediv_of_nonneg _ (Int.natCast_nonneg w)]
  rfl
section
variable {P : Program} {w : World} {K : PySem.W.Frag} {mg : Str → Option Value} {base : Heap}
def spBeside : Sp := fun vs H Q _ => ∃ (wd hg i : Nat), vs = [.int wd, .int hg, .int i] ∧ i < wd * hg ∧ wd ≤ 12 ∧
  ∀ H' p, Same H H' → H p = none → H' p = some (.lst (nI (bes wd hg i))) → Q (.ref p) H'
theorem scBeside : FnScope ["wide", "high", "spot", "column", "row", "spots"] ["wide", "high", "spot"] (defScope sBeside) := ⟨rfl, rfl, rfl, by decide +kernel, rfl, by decide +kernel, by decide +kernel⟩
/-- if the test holds, one is appended to the list at p -/
theorem app_if {ci c A : Prop} [Decidable ci] [Decidable c] {p : Addr} {H : Hp} {l : List Nat} {k : Nat} {v : V} {N : Hp → Prop} (hc : ci ↔ c) (hp : H p = some (.lst (nI l))) (hv : c → v = V.int (k : Int)) (hA : N (upd H p (.lst (nI l ++ [v]))) → A)
    (h : ∀ H', (∀ b, b ≠ p → H' b = H b) → H' p = some (.lst (nI (l ++ if c then [k] else []))) → N H') : if decide ci = true then A else N H := by
  by_cases hcc : c
  · refine if_t (decide_eq_true (hc.mpr hcc)) (hA (h _ (fun b hb => upd_ne hb) ?_))
    rw [upd_same, if_pos hcc, nI_app, hv hcc]
    rfl
  · refine if_f (decide_eq_false fun z => hcc (hc.mp z)) (h H (fun _ _ => rfl) ?_)
    rw [hp, if_neg hcc, List.append_nil]
theorem small4 {l : List V} {n : Nat} (h : l.length ≤ n) (hn : n ≤ 1000 := by decide) : l.length < sizeLine := small1000 (Nat.le_trans h hn)
theorem opt_len {c : Prop} [Decidable c] {k : Nat} : (if c then [k] else []).length ≤ 1 := by
  by_cases h : c
  · rw [if_pos h]; exact Nat.le_refl _
  · rw [if_neg h]; exact Nat.zero_le _
theorem ok_beside {f : Addr} {fd : FuncData} {k : Nat} (F : Fun K "beside" "beside" sBeside f fd) : FnOk P w K mg base CX0 (k + 1) f fd ["wide", "high", "spot"] spBeside := by
  refine F.ok scBeside (fun vs H Q E h => ?_) (fun cdv A outer s H vs Q E hr h => ?_)
  · obtain ⟨wd, hg, i, rfl, _⟩ := h
    rfl
  · obtain ⟨wd, hg, i, rfl, hi, hw, q⟩ := h
    have nd := scBeside.nd
    refine ⟨_, pss_cons (ps_set (i := 3) nd rfl (.inl rfl) (pe_op op_modN (pv 2) (pv 0)))
      (pss_cons (ps_set (i := 4) nd rfl (.inl rfl) (pe_op op_fdivN (pv 2) (pv 0)))
      (pss_cons (ps_set (i := 5) nd rfl (.inl rfl) (pe_lst pa_nil))
      (pss_cons (ps_if (pt_cmpR op_lt (pe_op op_add (pv 3) pe_int) (pv 0) (nomark _)) (pss_one (ps_expr (pe_bm PySem.F.plainAttrs_list PySem.F.slot_list_append PySem.F.type_list_append mt_append (pv 5) (pa_cons (pe_op op_add (pv 2) pe_int) pa_nil)))) pss_nil)
      (pss_cons (ps_if (pt_cmpR op_lt (pe_op op_add (pv 4) pe_int) (pv 1) (nomark _)) (pss_one (ps_expr (pe_bm PySem.F.plainAttrs_list PySem.F.slot_list_append PySem.F.type_list_append mt_append (pv 5) (pa_cons (pe_op op_add (pv 2) (pv 0)) pa_nil)))) pss_nil)
      (pss_cons (ps_if (pt_cmpR op_gt (pv 3) pe_int (nomark _)) (pss_one (ps_expr (pe_bm PySem.F.plainAttrs_list PySem.F.slot_list_append PySem.F.type_list_append mt_append (pv 5) (pa_cons (pe_op op_sub (pv 2) pe_int) pa_nil)))) pss_nil)
      (pss_cons (ps_if (pt_cmpR op_gt (pv 4) pe_int (nomark _)) (pss_one (ps_expr (pe_bm PySem.F.plainAttrs_list PySem.F.slot_list_append PySem.F.type_list_append mt_append (pv 5) (pa_cons (pe_op op_sub (pv 2) (pv 0)) pa_nil)))) pss_nil)
      (pss_one (ps_ret (pv 5))))))))), ?_⟩
    have hwp := wpos hi
    have hwi : (wd : Int) ≠ 0 := by omega
    have ec := fmod_nat i wd
    have er := fdiv_nat i wd
    refine ⟨_, rfl, _, rfl, _, _, rfl, rfl, hwi, _, rfl, _, rfl, _, _, rfl, rfl, ⟨hwi, by omega⟩, Nat.zero_le _, fun p hp => ?_⟩
    have e0 : upd H p (.lst []) p = some (.lst (nI [])) := upd_same
    refine ⟨_, rfl, _, _, rfl, rfl, _, rfl, _, _, rfl, rfl, _, rfl, app_if (c := i % wd + 1 < wd) (k := i + 1) (by rw [ec]; omega) e0 (fun _ => rfl)
      (fun n => ⟨_, rfl, .inl ⟨rfl, _, .inl (.inl e0)⟩, _, rfl, _, _, rfl, rfl, p, _, _, rfl, rfl, e0, small4 (n := 0) (Nat.le_refl _), n⟩) fun H1 k1 e1 => ?_⟩
    refine ⟨_, rfl, _, _, rfl, rfl, _, rfl, _, _, rfl, rfl, _, rfl, app_if (c := i / wd + 1 < hg) (k := i + wd) (by rw [er]; omega) e1 (fun _ => rfl)
      (fun n => ⟨_, rfl, .inl ⟨rfl, _, .inl (.inl e1)⟩, _, rfl, _, rfl, _, _, rfl, rfl, p, _, _, rfl, rfl, e1, small4 (n := 1) ?_, n⟩) fun H2 k2 e2 => ?_⟩
    · rw [nI_len]
      exact opt_len
    have hmod : i % wd ≤ i := Nat.mod_le _ _
    refine ⟨_, rfl, _, _, rfl, rfl, _, rfl, app_if (c := 0 < i % wd) (k := i - 1) (by rw [ec]; omega) e2 (fun c => congrArg V.int (by omega))
      (fun n => ⟨_, rfl, .inl ⟨rfl, _, .inl (.inl e2)⟩, _, rfl, _, _, rfl, rfl, p, _, _, rfl, rfl, e2, small4 (n := 2) ?_, n⟩) fun H3 k3 e3 => ?_⟩
    · rw [nI_len, List.length_append]
      have := opt_len (c := i % wd + 1 < wd) (k := i + 1)
      have := opt_len (c := i / wd + 1 < hg) (k := i + wd)
      rw [List.nil_append]
      omega
    refine ⟨_, rfl, _, _, rfl, rfl, _, rfl, app_if (c := 0 < i / wd) (k := i - wd) (by rw [er]; omega) e3 (fun c => congrArg V.int (by have := up_le c; omega))
      (fun n => ⟨_, rfl, .inl ⟨rfl, _, .inl (.inl e3)⟩, _, rfl, _, rfl, _, _, rfl, rfl, p, _, _, rfl, rfl, e3, small4 (n := 3) ?_, n⟩) fun H4 k4 e4 => ?_⟩
    · rw [nI_len, List.length_append, List.length_append]
      have := opt_len (c := i % wd + 1 < wd) (k := i + 1)
      have := opt_len (c := i / wd + 1 < hg) (k := i + wd)
      have := opt_len (c := 0 < i % wd) (k := i - 1)
      rw [List.nil_append]
      omega
    refine ⟨_, rfl, q H4 p (fun b o e => ?_) hp ?_⟩
    · have hb := ne_of_none e hp
      rw [k4 b hb, k3 b hb, k2 b hb, k1 b hb, upd_ne hb]
      exact e
    · rw [e4, List.nil_append, List.append_assoc]
      rfl
/-! ### a dict from spots to how far -/
def RD (kvs : List (Key × V)) (R : Nat → Option Nat) : Prop := (∀ p ∈ kvs, ∃ i : Nat, p.1 = Sum.inl (i : Int)) ∧ ∀ i : Nat, valV kvs (Sum.inl (i : Int)) = (R i).map fun v => V.int (v : Int)
theorem inl_inj {i j : Nat} (h : (Sum.inl (i : Int) : Key) = Sum.inl (j : Int)) : i = j := by
  injection h with h
  omega
theorem rd_nil : RD [] fun _ => none := ⟨fun p hp => (by cases hp), fun i => rfl⟩
theorem mem_putK {kvs : List (Key × V)} {k : Key} {v : V} {p : Key × V} (h : p ∈ putK kvs k v) : p.1 = k ∨ p ∈ kvs := by
  unfold putK at h
  split at h
  · obtain ⟨q, hq, e⟩ := List.mem_map.mp h
    by_cases c : q.1 = k
    · rw [if_pos c] at e
      rw [← e]
      exact .inl c
    · rw [if_neg c] at e
      rw [← e]
      exact .inr hq
  · rcases List.mem_append.mp h with z | z
    · exact .inr z
    · rw [List.mem_singleton.mp z]
      exact .inl rfl
theorem RD.put {kvs : List (Key × V)} {R : Nat → Option Nat} (h : RD kvs R) (i v : Nat) : RD (putK kvs (Sum.inl (i : Int)) (.int (v : Int))) (fset R i v) := by
  refine ⟨fun p hp => ?_, fun j => ?_⟩
  · rcases mem_putK hp with e | e
    · exact ⟨i, e⟩
    · exact h.1 p e
  · rw [valV_put]
    by_cases e : j = i
    · subst e
      rw [if_pos rfl, fset_same]
      rfl
    · rw [if_neg (fun z => e (inl_inj z)), fset_ne e, h.2 j]
theorem valV_dropK (k j : Key) : ∀ kvs : List (Key × V), valV (dropK kvs k) j = if j = k then none else valV kvs j
  | [] => by split <;> rfl
  | p :: r => by
    have ih := valV_dropK k j r
    unfold dropK at ih ⊢
    by_cases c : p.1 = k
    · rw [List.filter_cons_of_neg (by simp [c]), ih]
      by_cases e : j = k
      · rw [if_pos e, if_pos e]
      · rw [if_neg e, if_neg e, valV_neg (fun z => e (z.symm.trans c))]
    · rw [List.filter_cons_of_pos (by simp [c])]
      by_cases e : p.1 = j
      · rw [valV_pos e, valV_pos e, if_neg (fun z => c (e.trans z))]
      · rw [valV_neg e, valV_neg e, ih]
theorem RD.drop {kvs : List (Key × V)} {R : Nat → Option Nat} (h : RD kvs R) (i : Nat) : RD (dropK kvs (Sum.inl (i : Int))) (fdel R i) := by
  refine ⟨fun p hp => h.1 p (List.mem_filter.mp hp).1, fun j => ?_⟩
  rw [valV_dropK]
  by_cases e : j = i
  · subst e
    rw [if_pos rfl, fdel_same]
    rfl
  · rw [if_neg (fun z => e (inl_inj z)), fdel_ne e, h.2 j]
theorem drop_len (kvs : List (Key × V)) (k : Key) {v : V} (h : valV kvs k = some v) : (dropK kvs k).length + 1 ≤ kvs.length := by
  induction kvs with
  | nil => cases h
  | cons p r ih =>
    unfold dropK at ih ⊢
    by_cases c : p.1 = k
    · rw [List.filter_cons_of_neg (by simp [c])]
      exact Nat.succ_le_succ (List.length_filter_le _ _)
    · rw [valV_neg c] at h
      rw [List.filter_cons_of_pos (by simp [c])]
      exact Nat.succ_le_succ (ih h)
/-- its keys -/
theorem RD.keys {kvs : List (Key × V)} {R : Nat → Option Nat} (h : RD kvs R) : ∃ is : List Nat, kvs.map (·.1) = is.map (fun (i : Nat) => Sum.inl (i : Int)) ∧ (∀ i ∈ is, ∃ v, R i = some v) ∧ ∀ i v, R i = some v → i ∈ is := by
  have shape : ∀ l : List (Key × V), (∀ p ∈ l, ∃ i : Nat, p.1 = Sum.inl (i : Int)) → ∃ is : List Nat, l.map (·.1) = is.map fun (i : Nat) => Sum.inl (i : Int) := by
    intro l
    induction l with
    | nil => exact fun _ => ⟨[], rfl⟩
    | cons p r ih =>
      intro hl
      obtain ⟨i, e⟩ := hl p List.mem_cons_self
      obtain ⟨is, e2⟩ := ih fun q hq => hl q (List.mem_cons_of_mem _ hq)
      exact ⟨i :: is, by rw [List.map_cons, List.map_cons, e, e2]⟩
  obtain ⟨is, e⟩ := shape kvs h.1
  refine ⟨is, e, fun i hi => ?_, fun i v hv => ?_⟩
  · have m : (Sum.inl (i : Int) : Key) ∈ kvs.map (·.1) := by
      rw [e]
      exact List.mem_map.mpr ⟨i, hi, rfl⟩
    cases q : R i with
    | some v => exact ⟨v, rfl⟩
    | none =>
      have z := h.2 i
      rw [q] at z
      exact absurd m (valV_not z)
  · have z := h.2 i
    rw [hv] at z
    have m := valV_in z
    rw [e] at m
    obtain ⟨j, hj, ej⟩ := List.mem_map.mp m
    rw [← inl_inj ej]
    exact hj
/-! ### open_goals -/
def goalD (cs : List Nat) (kvs : List (Key × V)) (g : Nat) : List (Key × V) := if 0 < cs.getD g 0 then putK kvs (Sum.inl (g : Int)) (.int 0) else kvs
def goalR (cs : List Nat) (R : Nat → Option Nat) (g : Nat) : Nat → Option Nat := if 0 < cs.getD g 0 then fset R g 0 else R
theorem goal_rd (cs : List Nat) : ∀ (gs : List Nat) (kvs : List (Key × V)) (R : Nat → Option Nat), RD kvs R → RD (gs.foldl (goalD cs) kvs) (gs.foldl (goalR cs) R)
  | [], _, _, h => h
  | g :: gs, kvs, R, h => by
    refine goal_rd cs gs _ _ ?_
    unfold goalD goalR
    by_cases c : 0 < cs.getD g 0
    · rw [if_pos c, if_pos c]
      exact h.put g 0
    · rw [if_neg c, if_neg c]
      exact h
theorem goal_at (cs : List Nat) : ∀ (gs : List Nat) (R : Nat → Option Nat) (i : Nat), gs.foldl (goalR cs) R i = if i ∈ gs ∧ 0 < cs.getD i 0 then some 0 else R i
  | [], R, i => by rw [if_neg (fun z => by cases z.1)]; rfl
  | g :: gs, R, i => by
    rw [List.foldl_cons, goal_at cs gs]
    have e0 : goalR cs R g i = if i = g ∧ 0 < cs.getD i 0 then some 0 else R i := by
      unfold goalR
      by_cases c : 0 < cs.getD g 0
      · rw [if_pos c]
        by_cases e : i = g
        · subst e
          rw [fset_same, if_pos ⟨rfl, c⟩]
        · rw [fset_ne e, if_neg (fun z => e z.1)]
      · rw [if_neg c, if_neg]
        rintro ⟨e, z⟩
        rw [e] at z
        exact c z
    rw [e0]
    by_cases h : 0 < cs.getD i 0
    · by_cases m : i ∈ gs
      · rw [if_pos ⟨m, h⟩, if_pos ⟨List.mem_cons_of_mem _ m, h⟩]
      · rw [if_neg (fun z => m z.1)]
        by_cases e : i = g
        · rw [if_pos ⟨e, h⟩, if_pos ⟨by rw [e]; exact List.mem_cons_self, h⟩]
        · rw [if_neg (fun z => e z.1), if_neg (fun z => (List.mem_cons.mp z.1).elim e m)]
    · rw [if_neg (fun z => h z.2), if_neg (fun z => h z.2), if_neg (fun z => h z.2)]
theorem goalD_len (cs : List Nat) : ∀ (gs : List Nat) (kvs : List (Key × V)), (gs.foldl (goalD cs) kvs).length ≤ kvs.length + gs.length
  | [], _ => Nat.le_refl _
  | g :: gs, kvs => by
    have h := goalD_len cs gs (goalD cs kvs g)
    have h2 : (goalD cs kvs g).length ≤ kvs.length + 1 := by
      unfold goalD
      split
      · exact length_putK _ _ _
      · exact Nat.le_succ _
    rw [List.foldl_cons, List.length_cons]
    omega
theorem nI_get {l : List Nat} {i : Nat} (h : i < l.length) : (nI l)[i]? = some (.int ((l.getD i 0 : Nat) : Int)) := by
  unfold nI
  rw [List.getElem?_map, List.getElem?_eq_getElem h, List.getD_eq_getElem?_getD, List.getElem?_eq_getElem h]
  rfl
theorem nI_mem {l : List Nat} {i : Nat} {x : V} (h : (nI l)[i]? = some x) : ∃ n, l[i]? = some n ∧ x = .int (n : Int) := by
  unfold nI at h
  rw [List.getElem?_map] at h
  obtain ⟨n, hn, e⟩ := Option.map_eq_some_iff.mp h
  exact ⟨n, hn, e.symm⟩
theorem take_next {α : Type} {l : List α} {i : Nat} {x : α} (h : l[i]? = some x) : l.take (i + 1) = l.take i ++ [x] := by
  rw [List.take_add_one, h]
  rfl
def spOpenGoals (K : PySem.W.Frag) : Sp := fun vs H Q _ => ∃ (pc pg : Addr) (cs gs : List Nat), vs = [.ref pc, .ref pg] ∧ SqL K H pc (nI cs) ∧ SqL K H pg (nI gs) ∧ (∀ g ∈ gs, g < cs.length) ∧ gs.length ≤ 100 ∧
  ∀ H' p, Same H H' → H p = none → H' p = some (.dK (gs.foldl (goalD cs) [])) → Q (.ref p) H'
theorem scOpenGoals : FnScope ["costs", "goals", "reached", "goal"] ["costs", "goals"] (defScope sOpenGoals) := ⟨rfl, rfl, rfl, by decide +kernel, rfl, by decide +kernel, by decide +kernel⟩
theorem ok_openGoals {f : Addr} {fd : FuncData} {k : Nat} (F : Fun K "open_goals" "open_goals" sOpenGoals f fd) : FnOk P w K mg base CX0 (k + 1) f fd ["costs", "goals"] (spOpenGoals K) := by
  refine F.ok scOpenGoals (fun vs H Q E h => ?_) (fun cdv A outer s H vs Q E hr h => ?_)
  · obtain ⟨pc, pg, cs, gs, rfl, _⟩ := h
    rfl
  · obtain ⟨pc, pg, cs, gs, rfl, hC, hG, hlt, hlen, q⟩ := h
    have nd := scOpenGoals.nd
    refine ⟨_, pss_cons (ps_set (i := 2) nd rfl (.inl rfl) pe_dnewK)
      (pss_cons (ps_for PassesOwn.never rfl (pi_list (pv 1)) (pg_name (i := 3) nd rfl (.inl rfl))
        (pss_one (ps_if (pt_cmpR op_gt (pe_ix ix_list (pv 0) (pv 3) (fun _ _ => rfl)) pe_int (nomark _)) (pss_one (ps_dput (hu_of hr) (pv 2) (pv 3) pe_int rfl)) pss_nil)))
      (pss_one (ps_ret (pv 2)))), ?_⟩
    intro d hd
    have s1 : Same H (upd H d (.dK [])) := same_upd hd
    refine ⟨_, rfl, pg, rfl, ⟨_, s1.seq hG⟩, for_list (K := K) (a := pg) (xs := nI gs) (fun i σ H' => ∃ v : Option V, σ = [some (.ref pc), some (.ref pg), some (.ref d), v] ∧ Same H H' ∧ H' d = some (.dK ((gs.take i).foldl (goalD cs) [])))
      ⟨none, rfl, s1, upd_same⟩ (fun i σ H' _ ⟨_, _, s5, _⟩ => s5.seq hG) ?_ ?_⟩
    · rintro i y σ H' hi ⟨v, rfl, s5, e5⟩
      obtain ⟨g, hg, rfl⟩ := nI_mem hi
      have gl := hlt g (List.mem_of_getElem? hg)
      refine ⟨_, rfl, _, rfl, pc, _, _, _, rfl, rfl, s5.seq hC, atI_nat (nI_get gl), _, _, rfl, rfl, _, rfl, ?_⟩
      have step : (gs.take (i + 1)).foldl (goalD cs) [] = goalD cs ((gs.take i).foldl (goalD cs) []) g := by
        rw [take_next hg, List.foldl_append]
        rfl
      by_cases c : 0 < cs.getD g 0
      · refine if_t (decide_eq_true (by omega)) ⟨_, rfl, _, rfl, d, _, rfl, DPut.k (k := Sum.inl (g : Int)) e5 ?_, some (.int g), rfl, fun b o e => ?_, ?_⟩
        · have := goalD_len cs (gs.take i) []
          rw [List.length_take] at this
          exact small1000 (Nat.le_trans this (by show 0 + min i gs.length ≤ 1000; omega))
        · rw [upd_ne (ne_of_none e hd)]
          exact s5 b o e
        · rw [upd_same, step]
          unfold goalD
          rw [if_pos c]
      · refine if_f (decide_eq_false (by omega)) ⟨some (.int g), rfl, s5, ?_⟩
        rw [step, e5]
        unfold goalD
        rw [if_neg c]
    · rintro σ H' ⟨v, rfl, s5, e5⟩
      rw [nI_len, List.take_length] at e5
      exact ⟨_, rfl, q H' d s5 hd e5⟩
/-! ### nearest: the tables -/
theorem tabs_upd {T : List (Addr × Str)} {H : Hp} {a : Addr} {u o : HO} (t : Tabs T H) (ha : H a = some u) (h1 : ∀ ps, u ≠ .tbl ps) (h2 : ∀ φ, u ≠ .ext φ) : Tabs T (upd H a o) := fun p hp => by
  obtain ⟨ps, e1, e2, e3⟩ := t p hp
  refine ⟨ps, ?_, e2, fun pos cv hc => ?_⟩
  · rw [upd_ne (fun z => by rw [z, ha] at e1; exact h1 _ (Option.some.inj e1))]
    exact e1
  · obtain ⟨c, r1, r2⟩ := e3 pos cv hc
    refine ⟨c, r1, ?_⟩
    rw [upd_ne (fun z => by rw [z, ha] at r2; exact h2 _ (Option.some.inj r2))]
    exact r2
theorem tabs_new {T : List (Addr × Str)} {H : Hp} {a : Addr} {o : HO} (t : Tabs T H) (ha : H a = none) : Tabs T (upd H a o) := t.ext (same_upd ha)
/-- any least one of those reached -/
def spNearest (T : List (Addr × Str)) : Sp := fun vs H Q _ => ∃ (a : Addr) (kvs : List (Key × V)) (R : Nat → Option Nat), vs = [.ref a] ∧ H a = some (.dK kvs) ∧ RD kvs R ∧ kvs ≠ [] ∧ Tabs T H ∧
  ∀ (H' : Hp) (s v : Nat), R s = some v → (∀ j u, R j = some u → v ≤ u) → ExtN H H' → Tabs T H' → Q (.int s) H'
theorem scNearest : FnScope ["reached"] ["reached"] (defScope sNearest) := ⟨rfl, rfl, rfl, by decide +kernel, rfl, by decide +kernel, by decide +kernel⟩
theorem ok_nearest {f c Pt : Addr} {T : List (Addr × Str)} {k : Nat} {oc kV doc pm ct : Value} {od an : Option Addr} {osl : Array (Option Value)}
    (l : K.lookup f = some ⟨oc, od, .func (PySem.W.fnOf "nearest" "nearest" (defArgs sNearest) (defBody sNearest) (defScope sNearest) .none kV doc pm an (.ref c) ct), osl⟩) (hcd : PySem.W.codeIn K (.ref c) "nearest" = true)
    (mm : mg "min" = none) (TB : TabB base mg c Pt) (hT : (Pt, ("nearest.<locals>.<lambda>" : Str)) ∈ T) (hu : ∀ p ∈ T, p.1 = Pt → p.2 = ("nearest.<locals>.<lambda>" : Str)) :
    FnOk P w K mg base CX0 (k + 3) f (PySem.W.fnOf "nearest" "nearest" (defArgs sNearest) (defBody sNearest) (defScope sNearest) .none kV doc pm an (.ref c) ct) ["reached"] (spNearest T) := by
  refine fn_of l hcd scNearest (fun vs H Q E h => ?_) (fun A outer s H vs Q E hr h => ?_)
  · obtain ⟨a, kvs, R, rfl, _⟩ := h
    rfl
  · obtain ⟨a, kvs, R, rfl, ha, hR, hne, hTb, q⟩ := h
    refine ⟨_, PSs.nox (pss_one (ps_ret (pe_lock (pe_minKey (T := T) (c := c) (P := Pt) (k := k) (x := "spot") (fr := ["reached"]) (N := ["spot", "reached"]) (js := [0]) rfl rfl mm TB rfl hT hu hr rfl (nscope_by (by decide +kernel)) ?_ ?_ rfl
      (fun _ _ _ _ _ _ => rfl) (pa_cons (pv 0) pa_nil) (fun A' outer' s' H' f' c' hr' => pe_dget (hu_of hr') (pv 1) (pv 0) (fun _ _ => rfl)))))), ?_⟩
    · exact ndef_free (sc := defScope sNearest) (fr := ["reached"]) (by decide +kernel)
    · exact ndef_fr (sc := defScope sNearest) (by decide +kernel)
    · obtain ⟨is, ek, ei, ej⟩ := hR.keys
      have hne' : is ≠ [] := fun z => hne (by
        rw [z] at ek
        exact List.map_eq_nil_iff.mp ek)
      refine ⟨a, .dK kvs, ha, trivial, fun od => ⟨_, rfl, tabs_upd hTb ha (fun _ z => by cases z) (fun _ z => by cases z), a, od, kvs, is.map (fun (i : Nat) => (i : Int)), (fun n => (((R n.toNat).getD 0 : Nat) : Int)), rfl, upd_same, ?_, ?_, fun H2 eN T2 => ⟨fun n hn => ?_, fun m hm hle => ?_⟩⟩⟩
      · rw [ek, List.map_map]
        rfl
      · exact fun z => hne' (List.map_eq_nil_iff.mp z)
      · obtain ⟨i, hi, rfl⟩ := List.mem_map.mp hn
        obtain ⟨v, hv⟩ := ei i hi
        have h2 : H2 a = some (.frz od (.dK kvs)) := eN a _ upd_same fun _ z => by cases z
        refine ⟨_, rfl, _, rfl, a, .int v, rfl, .inl ⟨kvs, Sum.inl (i : Int), .inr ⟨od, h2⟩, rfl, ?_⟩, ?_, rfl⟩
        · rw [hR.2 i, hv]
          rfl
        · show V.int (v : Int) = V.int (((R (i : Int).toNat).getD 0 : Nat) : Int)
          rw [Int.toNat_natCast, hv]
          rfl
      · obtain ⟨i, hi, rfl⟩ := List.mem_map.mp hm
        obtain ⟨v, hv⟩ := ei i hi
        have h2 : H2 a = some (.frz od (.dK kvs)) := eN a _ upd_same fun _ z => by cases z
        refine ⟨h2, q _ i v hv (fun j u hu => ?_) (fun b o e n => ?_) (tabs_upd T2 h2 (fun _ z => by cases z) (fun _ z => by cases z))⟩
        · have z := hle (j : Int) (List.mem_map.mpr ⟨j, ej j u hu, rfl⟩)
          have z' : (((R (i : Int).toNat).getD 0 : Nat) : Int) ≤ (((R (j : Int).toNat).getD 0 : Nat) : Int) := z
          rw [Int.toNat_natCast, Int.toNat_natCast, hv, hu] at z'
          have z2 : (v : Int) ≤ (u : Int) := z'
          omega
        · by_cases hb : b = a
          · rw [hb, upd_same]
            rw [hb, ha] at e
            exact e
          · rw [upd_ne hb]
            refine eN b o ?_ n
            rw [upd_ne hb]
            exact e
end
end Gf
set_option Elab.async false
set_option linter.all false
set_option maxRecDepth 100000
set_option maxHeartbeats 2000000
namespace Gf
open PySem PySem.Spec PyProof.Rows L2 LamX NdefX
/-! ### reckon_field -/
def oV : Option Nat → V
  | none => .non
  | some d => .int (d : Int)
def fV (l : List (Option Nat)) : List V := l.map oV
theorem fV_len (l : List (Option Nat)) : (fV l).length = l.length := List.length_map _
theorem fV_get {l : List (Option Nat)} {i : Nat} (h : i < l.length) : (fV l)[i]? = some (oV (l.getD i none)) := by
  unfold fV
  rw [List.getElem?_map, List.getElem?_eq_getElem h, List.getD_eq_getElem?_getD, List.getElem?_eq_getElem h]
  rfl
theorem fV_set (l : List (Option Nat)) (i v : Nat) : (fV l).set i (.int (v : Int)) = fV (l.set i (some v)) := by
  unfold fV
  rw [List.map_set]
  rfl
def mapOf (wd hg : Nat) (cs gs : List Nat) : Ge07.Map := ⟨wd, hg, cs, gs.map (pl wd)⟩
theorem gi_mapOf {wd hg : Nat} {cs gs : List Nat} {i : Nat} : gi (mapOf wd hg cs gs) i = true ↔ i ∈ gs := by
  show (gs.map (pl wd)).contains (pl wd i) = true ↔ i ∈ gs
  rw [List.contains_iff_mem]
  constructor
  · intro h
    obtain ⟨j, hj, e⟩ := List.mem_map.mp h
    have z := congrArg (ix wd) e
    rw [ix_pl, ix_pl] at z
    rw [← z]
    exact hj
  · exact fun h => List.mem_map.mpr ⟨i, h, rfl⟩
theorem extN_seq {K : PySem.W.Frag} {H H' : Hp} {a : Addr} {xs : List V} (e : ExtN H H') (h : SqL K H a xs) : SqL K H' a xs := by
  rcases h with (h | ⟨o, h⟩) | h
  · exact .inl (.inl (e _ _ h fun _ z => by cases z))
  · exact .inl (.inr ⟨o, e _ _ h fun _ z => by cases z⟩)
  · exact .inr h
theorem extN_of {H H' : Hp} (e : Same H H') : ExtN H H' := fun b o h _ => e b o h
/-- an object that H does not know may change -/
theorem extN_mut {H H' : Hp} {p : Addr} {o : HO} (e : ExtN H H') (h : H p = none) : ExtN H (upd H' p o) := fun a u ha n => by
  rw [upd_ne (ne_of_none ha h)]
  exact e a u ha n
def dOf (l : List (Option Nat)) : Nat → Option Nat := fun i => l.getD i none
theorem dOf_set {l : List (Option Nat)} {i v : Nat} (h : i < l.length) : dOf (l.set i (some v)) = fset (dOf l) i v := by
  funext j
  unfold dOf
  rw [List.getD_eq_getElem?_getD, List.getElem?_set]
  by_cases e : i = j
  · subst e
    rw [if_pos rfl, if_pos h, fset_same]
    rfl
  · rw [if_neg e, fset_ne (fun z => e z.symm), List.getD_eq_getElem?_getD]
theorem ixN_at {n j : Nat} (h : j < n) : ixN n (j : Int) = some j := by
  unfold ixN
  rw [if_pos (Int.natCast_nonneg j), if_pos (by omega), Int.toNat_natCast]
theorem min_at (a b : Nat) : (if (b : Int) < (a : Int) then (b : Int) else (a : Int)) = ((min a b : Nat) : Int) := by
  by_cases h : b < a
  · rw [if_pos (by omega), Nat.min_eq_right (by omega)]
  · rw [if_neg (by omega), Nat.min_eq_left (by omega)]
def spReckonF (K : PySem.W.Frag) (T : List (Addr × Str)) : Sp := fun vs H Q _ => ∃ (wd hg : Nat) (pc pg : Addr) (cs gs : List Nat), vs = [.int wd, .int hg, .ref pc, .ref pg] ∧ SqL K H pc (nI cs) ∧ SqL K H pg (nI gs) ∧
  cs.length = wd * hg ∧ 0 < wd ∧ wd ≤ 12 ∧ hg ≤ 12 ∧ (∀ g ∈ gs, g < wd * hg) ∧ gs.length ≤ 6 ∧ Tabs T H ∧
  ∀ H' p, ExtN H H' → Tabs T H' → H p = none → H' p = some (.lst (fV (Ge07.field (mapOf wd hg cs gs)))) → Q (.ref p) H'
abbrev nReckonF : List Str := ["wide", "high", "costs", "goals", "field", "reached", "spot", "far", "other", "cost"]
theorem scReckonF : FnScope nReckonF ["wide", "high", "costs", "goals"] (defScope sReckonF) := ⟨rfl, rfl, rfl, by decide +kernel, rfl, by decide +kernel, by decide +kernel⟩
section
variable {P : Program} {w : World} {K : PySem.W.Frag} {mg : Str → Option Value} {base : Heap}
theorem ok_reckonF {f fB fO fN : Addr} {fd fdB fdO fdN : FuncData} {T : List (Addr × Str)} {k : Nat} (F : Fun K "reckon_field" "reckon_field" sReckonF f fd)
    (GB : FnOk P w K mg base CX0 1 fB fdB ["wide", "high", "spot"] spBeside) (bB : Binds K fdB ["wide", "high", "spot"] []) (mB : mg "beside" = some (.ref fB)) (kB : PySem.W.keepIn K (.ref fB) = true)
    (GO : FnOk P w K mg base CX0 1 fO fdO ["costs", "goals"] (spOpenGoals K)) (bO : Binds K fdO ["costs", "goals"] []) (mO : mg "open_goals" = some (.ref fO)) (kO : PySem.W.keepIn K (.ref fO) = true)
    (GN : FnOk P w K mg base CX0 3 fN fdN ["reached"] (spNearest T)) (bN : Binds K fdN ["reached"] []) (mN : mg "nearest" = some (.ref fN)) (kN : PySem.W.keepIn K (.ref fN) = true)
    (mLen : mg "len" = none) (mMin : mg "min" = none) : FnOk P w K mg base CX0 (k + 4) f fd ["wide", "high", "costs", "goals"] (spReckonF K T) := by
  refine F.ok scReckonF (fun vs H Q E h => ?_) (fun cdv A outer s H vs Q E hr h => ?_)
  · obtain ⟨wd, hg, pc, pg, cs, gs, rfl, _⟩ := h
    rfl
  · have nd := scReckonF.nd
    have hr1 : Room 1 _ := hr.mono (show 1 ≤ k + 3 by omega)
    have hr3 : Room 3 _ := hr.mono (show 3 ≤ k + 3 by omega)
    have hu := hu_of hr
    refine ⟨_, pss_cons (ps_setLc (i := 4) (own := [("cost", 9)]) (g := gName 9) (tt := tYes) rfl nd rfl rfl (sw_true rfl rfl rfl (by decide +kernel)) (pi_list (pv 2)) (blkOk_by (N := nReckonF) (sc := defScope sReckonF) (by decide +kernel)) (fun _ _ _ _ _ => pg_name (i := 9) nd rfl (Or.inl rfl)) (fun _ _ _ _ _ => pts_nil) (fun _ _ _ _ _ => pe_non))
      (pss_cons (ps_set (i := 5) nd rfl (.inl rfl) (pe_call GO hr1 rfl mO kO bO .nil pass0 (pa_cons (pv 2) (pa_cons (pv 3) pa_nil))))
      (pss_cons (ps_while PassesOwn.never (pt_cmpR op_gt (pe_callB call_lenD (by rfl) mLen PySem.boot_len (pa_cons (pv 5) pa_nil)) pe_int (nomark _))
        (pss_cons (ps_set (i := 6) nd rfl (.inl rfl) (pe_call GN hr3 rfl mN kN bN .nil pass0 (pa_cons (pv 5) pa_nil)))
        (pss_cons (ps_asg (pe_dpop1 (pv 5) (pv 6) ⟨rfl, rfl, rfl, rfl⟩) (pg_sub (pv 4) (pv 6) set_list))
        (pss_cons (ps_set (i := 7) nd rfl (.inl rfl) (pe_op op_add (pe_ix ix_list (pv 4) (pv 6) (fun _ _ => rfl)) (pe_ix ix_list (pv 2) (pv 6) (fun _ _ => rfl))))
        (pss_one (ps_for PassesOwn.never rfl (pi_list (pe_call GB hr1 rfl mB kB bB .nil pass0 (pa_cons (pv 0) (pa_cons (pv 1) (pa_cons (pv 6) pa_nil))))) (pg_name (i := 8) nd rfl (.inl rfl))
          (pss_one (ps_if (PW.pt (pw_and (pt_cmpR op_gt (pe_ix ix_list (pv 2) (pv 8) (fun _ _ => rfl)) pe_int (nomark _)) (pw_and1 (pt_cmpR op_isN (pe_ix ix_list (pv 4) (pv 8) (fun _ _ => rfl)) pe_non (nomark _)))))
            (pss_one (ps_dput hu (pv 5) (pv 8) (pe_callB (call_min2 rfl) (by rfl) mMin PyProof.Rows.boot_min (pa_cons (pv 7) (pa_cons (pe_dget2 hu (pv 5) (pv 8) (pv 7) ⟨rfl, rfl, rfl, rfl⟩) pa_nil))) rfl)) pss_nil))))))))
      (pss_one (ps_ret (pv 4))))), ?_⟩
    obtain ⟨wd, hg, pc, pg, cs, gs, rfl, hC, hG, hlen, hw, hw12, hh12, hgs, hg6, hTb, q⟩ := h
    have nle : wd * hg ≤ 144 := Nat.mul_le_mul hw12 hh12
    -- field = [None for cost in costs]
    refine ⟨_, rfl, pc, rfl, ⟨_, hC⟩, fun pf npf => lc_list (K := K) (a := pc) (xs := nI cs) (fun i H' => Same H H' ∧ H' pf = some (.lst (fV (List.replicate i none)))) ⟨same_upd npf, upd_same⟩ (fun i H' _ z => z.1.seq hC) ?_ ?_⟩
    · rintro i x H' hi ⟨s1, e1⟩
      refine ⟨rfl, _, e1, ?_, fun b o e => ?_, ?_⟩
      · rw [fV_len, List.length_replicate]
        have : i < (nI cs).length := (List.getElem?_eq_some_iff.mp hi).1
        rw [nI_len] at this
        exact small1000 (by omega)
      · rw [upd_ne (ne_of_none e npf)]
        exact s1 b o e
      · rw [upd_same, List.replicate_succ']
        unfold fV
        rw [List.map_append]
        rfl
    · rintro H1 ⟨s1, e1⟩
      rw [nI_len] at e1
      rw [hlen] at e1
      -- reached = open_goals(costs, goals)
      refine ⟨_, rfl, _, rfl, pc, pg, cs, gs, rfl, s1.seq hC, s1.seq hG, (fun g hg' => by rw [hlen]; exact hgs g hg'), Nat.le_trans hg6 (by decide), fun H2 pr s2 npr e2 => ?_⟩
      have npr0 : H pr = none := s1.free npr
      have nfr : pf ≠ pr := ne_of_none e1 npr
      have hpc : ∀ H', ExtN H H' → SqL K H' pc (nI cs) := fun H' e => extN_seq e hC
      let mp := mapOf wd hg cs gs
      let WI : Nat → L2.St → Hp → Prop := fun m σ H' => ∃ (fl : List (Option Nat)) (kvs : List (Key × V)) (R : Nat → Option Nat) (y6 y7 y8 y9 : Option V),
        σ = [some (.int wd), some (.int hg), some (.ref pc), some (.ref pg), some (.ref pf), some (.ref pr), y6, y7, y8, y9] ∧ ExtN H H' ∧ Tabs T H' ∧ H' pf = some (.lst (fV fl)) ∧ H' pr = some (.dK kvs) ∧
        fl.length = wd * hg ∧ RD kvs R ∧ DI mp (dOf fl) R ∧ kvs.length + 4 * nones fl ≤ 6 + 4 * (wd * hg) ∧ m = nones fl
      have e0 : ExtN H H2 := extN_of (s1.trans s2)
      refine ⟨WI, ⟨_, List.replicate (wd * hg) none, _, _, none, none, none, none, rfl, e0, hTb.ext (s1.trans s2), s2 _ _ e1, e2, List.length_replicate, goal_rd cs gs [] _ rd_nil, ?_, ?_, rfl⟩, ?_⟩
      · have ed : dOf (List.replicate (wd * hg) none) = fun _ => none := by
          funext i
          unfold dOf
          rw [List.getD_eq_getElem?_getD, List.getElem?_replicate]
          split <;> rfl
        rw [ed]
        refine DI.start fun i v => ?_
        rw [goal_at]
        have cw : ci mp i ≠ 0 ↔ 0 < cs.getD i 0 := by
          show cs.getD i 0 ≠ 0 ↔ _
          omega
        rw [cw, gi_mapOf]
        constructor
        · intro h
          by_cases c : i ∈ gs ∧ 0 < cs.getD i 0
          · rw [if_pos c] at h
            cases h
            exact ⟨hgs i c.1, c.2, c.1, rfl⟩
          · rw [if_neg c] at h
            cases h
        · rintro ⟨_, b, c, rfl⟩
          rw [if_pos ⟨c, b⟩]
      · have h1 := goalD_len cs gs []
        have h2 := nones_le (List.replicate (wd * hg) none)
        rw [List.length_replicate] at h2
        have h1' : (gs.foldl (goalD cs) []).length ≤ 0 + gs.length := h1
        omega
      · rintro m σ H3 ⟨fl, kvs, R, y6, y7, y8, y9, rfl, x3, t3, ef, ek, lf, hR, hD, hsz, rfl⟩
        refine ⟨_, rfl, pr, kvs, rfl, ek, _, _, rfl, rfl, _, rfl, ?_⟩
        by_cases hk : kvs = []
        · -- the end
          subst hk
          refine if_f (decide_eq_false (by decide)) ⟨_, rfl, q H3 pf x3 t3 npf ?_⟩
          have hRn : ∀ i, R i = none := fun i => by
            have z := hR.2 i
            cases c : R i with
            | none => rfl
            | some v => rw [c] at z; cases z
          have hfix := hD.fix hRn
          have ef2 : fl = (List.range (wd * hg)).map (dOf fl) := field_ext lf fun i _ => rfl
          rw [ef, show Ge07.field mp = _ from field_of_fix (m := mp) hw hfix]
          exact congrArg (fun l => some (HO.lst (fV l))) ef2
        · have hkl : 0 < kvs.length := List.length_pos_iff.mpr hk
          refine if_t (decide_eq_true (by omega)) ⟨fun σ' H' => ∃ m', m' < nones fl ∧ WI m' σ' H', fun _ _ z => z, ?_⟩
          -- spot = nearest(reached)
          refine ⟨_, rfl, pr, kvs, R, rfl, ek, hR, hk, t3, fun H4 sp v hs hmin x4 t4 => ?_⟩
          obtain ⟨spn, spc, spD⟩ := hD.domR sp v hs
          have spl : sp < fl.length := by rw [lf]; exact spn
          have spcl : sp < cs.length := by rw [hlen]; exact spn
          have ek4 : H4 pr = some (.dK kvs) := x4 pr _ ek fun _ z => by cases z
          have ef4 : H4 pf = some (.lst (fV fl)) := x4 pf _ ef fun _ z => by cases z
          have hval : valV kvs (Sum.inl (sp : Int)) = some (.int (v : Int)) := by
            rw [hR.2 sp, hs]
            rfl
          -- field[spot] = reached.pop(spot)
          have ef5 : upd H4 pr (.dK (dropK kvs (Sum.inl (sp : Int)))) pf = some (.lst (fV fl)) := by
            rw [upd_ne nfr]
            exact ef4
          refine ⟨_, rfl, pr, rfl, .inl ⟨kvs, .inl ek4⟩, _, rfl, kvs, Sum.inl (sp : Int), .int v, ek4, rfl, hval, _, rfl, _, rfl, pf, _, _, sp, rfl, rfl, ef5, ixN_at (by rw [fV_len]; exact spl), ?_⟩
          rw [fV_set]
          have x6 : ExtN H (upd (upd H4 pr (.dK (dropK kvs (Sum.inl (sp : Int))))) pf (.lst (fV (fl.set sp (some v))))) := extN_mut (extN_mut (x3.trans x4) npr0) npf
          have t6 : Tabs T (upd (upd H4 pr (.dK (dropK kvs (Sum.inl (sp : Int))))) pf (.lst (fV (fl.set sp (some v))))) := tabs_upd (tabs_upd t4 ek4 (fun _ z => by cases z) (fun _ z => by cases z)) ef5 (fun _ z => by cases z) (fun _ z => by cases z)
          have ef6 : (upd (upd H4 pr (.dK (dropK kvs (Sum.inl (sp : Int))))) pf (.lst (fV (fl.set sp (some v))))) pf = some (.lst (fV (fl.set sp (some v)))) := upd_same
          have ek6 : (upd (upd H4 pr (.dK (dropK kvs (Sum.inl (sp : Int))))) pf (.lst (fV (fl.set sp (some v))))) pr = some (.dK (dropK kvs (Sum.inl (sp : Int)))) := by
            rw [upd_ne nfr.symm, upd_same]
          generalize (upd (upd H4 pr (.dK (dropK kvs (Sum.inl (sp : Int))))) pf (.lst (fV (fl.set sp (some v))))) = H6 at x6 t6 ef6 ek6
          have lf1 : (fl.set sp (some v)).length = wd * hg := by rw [List.length_set]; exact lf
          have gfl : (fl.set sp (some v)).getD sp none = some v := by
            rw [List.getD_eq_getElem?_getD, List.getElem?_set_self spl]
            rfl
          have hD1 : dOf (fl.set sp (some v)) = fset (dOf fl) sp v := dOf_set spl
          have hno : nones (fl.set sp (some v)) + 1 = nones fl := nones_set (by
            have z : fl.getD sp none = none := spD
            rw [List.getD_eq_getElem?_getD, List.getElem?_eq_getElem spl] at z
            rw [List.getElem?_eq_getElem spl]
            exact congrArg some z)
          have dl := drop_len kvs _ hval
          generalize fl.set sp (some v) = fl1 at ef6 lf1 gfl hD1 hno
          generalize hkd : dropK kvs (Sum.inl (sp : Int)) = kd at ek6 dl
          have hRd : RD kd (fdel R sp) := by
            rw [← hkd]
            exact hR.drop sp
          -- far = field[spot] + costs[spot]
          refine ⟨_, rfl, _, rfl, pf, _, _, _, rfl, rfl, SqL.of ef6, atI_nat (fV_get (by rw [lf1]; exact spn)), _, rfl, _, rfl, pc, _, _, _, rfl, rfl, hpc _ x6, atI_nat (nI_get spcl), (v : Int), ((cs.getD sp 0 : Nat) : Int), (by rw [gfl]; rfl), rfl, ?_⟩
          -- for other in beside(wide, high, spot)
          refine ⟨_, rfl, _, rfl, _, rfl, wd, hg, sp, rfl, spn, hw12, fun H7 pb s7 npb eb => ?_⟩
          have x7 : ExtN H H7 := x6.trans (extN_of s7)
          have nbf : pb ≠ pf := fun z => by rw [z, ef6] at npb; cases npb
          have nbr : pb ≠ pr := fun z => by rw [z, ek6] at npb; cases npb
          refine ⟨pb, rfl, ⟨_, SqL.of eb⟩, for_list (K := K) (a := pb) (xs := nI (bes wd hg sp)) (fun i σ H' => ∃ (y8 : Option V) (kv : List (Key × V)), σ = [some (.int wd), some (.int hg), some (.ref pc), some (.ref pg), some (.ref pf), some (.ref pr), some (.int sp), some (.int ((v : Int) + ((cs.getD sp 0 : Nat) : Int))), y8, y9] ∧
              ExtN H H' ∧ Tabs T H' ∧ H' pf = some (.lst (fV fl1)) ∧ H' pb = some (.lst (nI (bes wd hg sp))) ∧ H' pr = some (.dK kv) ∧ RD kv (((bes wd hg sp).take i).foldl (relaxR (ci mp) (dOf fl1) (v + ci mp sp)) (fdel R sp)) ∧ kv.length ≤ kd.length + i)
            ⟨y8, kd, rfl, x7, t6.ext s7, s7 _ _ ef6, eb, s7 _ _ ek6, hRd, Nat.le_add_right _ _⟩ (fun i σ H' _ ⟨_, _, _, _, _, _, z, _⟩ => SqL.of z) ?_ ?_⟩
          · rintro i x σ H' hi ⟨z8, kv, rfl, x8, t8, ef8, eb8, ek8, hR8, l8⟩
            obtain ⟨o, ho, rfl⟩ := nI_mem hi
            have hob : o ∈ bes wd hg sp := List.mem_of_getElem? ho
            have hon : o < wd * hg := bes_lt spn hob
            have i4 : i < 4 := Nat.lt_of_lt_of_le (List.getElem?_eq_some_iff.mp ho).1 (bes_len wd hg sp)
            have step : ((bes wd hg sp).take (i + 1)).foldl (relaxR (ci mp) (dOf fl1) (v + ci mp sp)) (fdel R sp) = relaxR (ci mp) (dOf fl1) (v + ci mp sp) (((bes wd hg sp).take i).foldl (relaxR (ci mp) (dOf fl1) (v + ci mp sp)) (fdel R sp)) o := by
              rw [take_next ho, List.foldl_append]
              rfl
            generalize ((bes wd hg sp).take i).foldl (relaxR (ci mp) (dOf fl1) (v + ci mp sp)) (fdel R sp) = R8 at hR8 step
            have kvn : kv.length < sizeLine := small1000 (by omega)
            have stay : ¬ (ci mp o ≠ 0 ∧ dOf fl1 o = none) → ∃ (y8 : Option V) (kv' : List (Key × V)), [some (V.int wd), some (V.int hg), some (V.ref pc), some (V.ref pg), some (V.ref pf), some (V.ref pr), some (V.int sp), some (V.int ((v : Int) + ((cs.getD sp 0 : Nat) : Int))), some (V.int (o : Int)), y9] = [some (V.int wd), some (V.int hg), some (V.ref pc), some (V.ref pg), some (V.ref pf), some (V.ref pr), some (V.int sp), some (V.int ((v : Int) + ((cs.getD sp 0 : Nat) : Int))), y8, y9] ∧
                ExtN H H' ∧ Tabs T H' ∧ H' pf = some (.lst (fV fl1)) ∧ H' pb = some (.lst (nI (bes wd hg sp))) ∧ H' pr = some (.dK kv') ∧ RD kv' (((bes wd hg sp).take (i + 1)).foldl (relaxR (ci mp) (dOf fl1) (v + ci mp sp)) (fdel R sp)) ∧ kv'.length ≤ kd.length + (i + 1) := fun nc => by
              refine ⟨_, kv, rfl, x8, t8, ef8, eb8, ek8, ?_, by omega⟩
              rw [step]
              unfold relaxR
              rw [if_neg nc]
              exact hR8
            refine ⟨_, rfl, _, rfl, pc, _, _, _, rfl, rfl, hpc _ x8, atI_nat (nI_get (by rw [hlen]; exact hon)), _, _, rfl, rfl, _, rfl, ?_⟩
            by_cases c1 : 0 < cs.getD o 0
            · refine if_t (decide_eq_true (by omega)) ⟨_, rfl, _, rfl, pf, _, _, _, rfl, rfl, SqL.of ef8, atI_nat (fV_get (by rw [lf1]; exact hon)), rfl, _, rfl, ?_⟩
              cases c2 : fl1.getD o none with
              | some d =>
                refine stay fun z => ?_
                have z2 : fl1.getD o none = none := z.2
                rw [c2] at z2
                cases z2
              | none =>
                have eo : (valV kv (Sum.inl (o : Int))).getD (.int ((v : Int) + ((cs.getD sp 0 : Nat) : Int))) = .int (((R8 o).getD (v + ci mp sp) : Nat) : Int) := by
                  rw [hR8.2 o]
                  cases R8 o with
                  | none => rfl
                  | some d => rfl
                refine ⟨_, rfl, _, rfl, pr, rfl, .inl ⟨kv, .inl ek8⟩, _, rfl, _, rfl, _, DGet.k (k := Sum.inl (o : Int)) ek8, ((v + ci mp sp : Nat) : Int), (((R8 o).getD (v + ci mp sp) : Nat) : Int), ?_, _, rfl, _, rfl, pr, _, rfl, DPut.k (k := Sum.inl (o : Int)) ek8 kvn, ?_⟩
                · rw [eo]
                  rfl
                · rw [min_at]
                  refine ⟨_, _, rfl, extN_mut x8 npr0, tabs_upd t8 ek8 (fun _ z => by cases z) (fun _ z => by cases z), ?_, ?_, upd_same, ?_, ?_⟩
                  · rw [upd_ne nfr]
                    exact ef8
                  · rw [upd_ne nbr]
                    exact eb8
                  · rw [step]
                    unfold relaxR
                    rw [if_pos (show ci mp o ≠ 0 ∧ dOf fl1 o = none from ⟨by show cs.getD o 0 ≠ 0; omega, c2⟩)]
                    exact hR8.put o _
                  · have := length_putK kv (Sum.inl (o : Int)) (.int ((min (v + ci mp sp) ((R8 o).getD (v + ci mp sp)) : Nat) : Int))
                    omega
            · refine if_f (decide_eq_false (by omega)) (stay fun z => z.1 ?_)
              show cs.getD o 0 = 0
              omega
          · rintro σ H' ⟨z8, kv, rfl, x8, t8, ef8, eb8, ek8, hR8, l8⟩
            rw [nI_len] at hR8 l8
            rw [List.take_length] at hR8
            have l4 := bes_len wd hg sp
            refine ⟨nones fl1, by omega, fl1, kv, _, _, _, _, _, rfl, x8, t8, ef8, ek8, lf1, hR8, ?_, by omega, rfl⟩
            rw [hD1] at hR8 ⊢
            exact hD.turn hs hmin (turned_of (m := mp) spn)
end
end Gf
set_option Elab.async false
set_option linter.all false
set_option maxRecDepth 100000
set_option maxHeartbeats 2000000
namespace Gf
open PySem PySem.Spec PyProof.Rows L2 LamX NdefX
abbrev sNextSpot : Stmt := topS 5
abbrev sWayTold : Stmt := topS 6
theorem find_at {p : Nat → Bool} {l : List Nat} {i x : Nat} (h : l[i]? = some x) (hp : p x = true) (hn : ∀ y ∈ l.take i, p y = false) : l.find? p = some x := by
  rw [List.find?_eq_some_iff_getElem]
  obtain ⟨hi, ei⟩ := List.getElem?_eq_some_iff.mp h
  refine ⟨hp, i, hi, ei, fun j hj => ?_⟩
  rw [Bool.not_eq_true']
  refine hn _ ?_
  rw [List.mem_take_iff_getElem]
  exact ⟨j, by omega, rfl⟩
theorem find_no {p : Nat → Bool} {l : List Nat} (hn : ∀ y ∈ l, p y = false) : l.find? p = none := List.find?_eq_none.mpr fun y hy z => by
  rw [hn y hy] at z
  cases z
/-- does it make up for it -/
def makes (m : Ge07.Map) (d j : Nat) : Bool := (fldOf m j).any fun e => e + ci m j == d
theorem nxt_find {m : Ge07.Map} {s d : Nat} (hd : fldOf m s = some d) (h0 : 0 < d) : nxt m (fldOf m) s = (bes m.w m.h s).find? (makes m d) := by
  obtain ⟨d', rfl⟩ : ∃ d', d = d' + 1 := ⟨d - 1, by omega⟩
  unfold nxt
  rw [hd] <;> rfl
def nxtV (o : Option Nat) : V := match o with
  | none => .non
  | some j => .int (j : Nat)
section
variable {P : Program} {w : World} {K : PySem.W.Frag} {mg : Str → Option Value} {base : Heap}
/-- a map's costs and its field -/
structure FldAt (K : PySem.W.Frag) (H : Hp) (m : Ge07.Map) (pc pf : Addr) : Prop where
  cs : SqL K H pc (nI m.costs)
  fl : SqL K H pf (fV (Ge07.field m))
  len : m.costs.length = m.w * m.h
  w0 : 0 < m.w
  w12 : m.w ≤ 12
  h12 : m.h ≤ 12
theorem FldAt.to {H H' : Hp} {m : Ge07.Map} {pc pf : Addr} (h : FldAt K H m pc pf) (s : Same H H') : FldAt K H' m pc pf := ⟨s.seq h.cs, s.seq h.fl, h.len, h.w0, h.w12, h.h12⟩
theorem FldAt.f {H : Hp} {m : Ge07.Map} {pc pf : Addr} (h : FldAt K H m pc pf) {i : Nat} (hi : i < m.w * m.h) : atI (fV (Ge07.field m)) ((i : Nat) : Int) = some (oV (fldOf m i)) := atI_nat (fV_get (by rw [field_len h.w0]; exact hi))
theorem FldAt.c {H : Hp} {m : Ge07.Map} {pc pf : Addr} (h : FldAt K H m pc pf) {i : Nat} (hi : i < m.w * m.h) : atI (nI m.costs) ((i : Nat) : Int) = some (.int ((ci m i : Nat) : Int)) := atI_nat (nI_get (by rw [h.len]; exact hi))
def spNextSpot (K : PySem.W.Frag) : Sp := fun vs H Q _ => ∃ (m : Ge07.Map) (pc pf : Addr) (s d : Nat), vs = [.int m.w, .int m.h, .ref pc, .ref pf, .int s] ∧ FldAt K H m pc pf ∧ s < m.w * m.h ∧ fldOf m s = some d ∧ 0 < d ∧
  ∀ H', Same H H' → Q (nxtV (nxt m (fldOf m) s)) H'
theorem scNextSpot : FnScope ["wide", "high", "costs", "field", "spot", "other"] ["wide", "high", "costs", "field", "spot"] (defScope sNextSpot) := ⟨rfl, rfl, rfl, by decide +kernel, rfl, by decide +kernel, by decide +kernel⟩
theorem ok_nextSpot {f fB : Addr} {fd fdB : FuncData} {k : Nat} (F : Fun K "next_spot" "next_spot" sNextSpot f fd)
    (GB : FnOk P w K mg base CX0 1 fB fdB ["wide", "high", "spot"] spBeside) (bB : Binds K fdB ["wide", "high", "spot"] []) (mB : mg "beside" = some (.ref fB)) (kB : PySem.W.keepIn K (.ref fB) = true) :
    FnOk P w K mg base CX0 (k + 2) f fd ["wide", "high", "costs", "field", "spot"] (spNextSpot K) := by
  have nd := scNextSpot.nd
  refine F.ok scNextSpot (fun vs H Q E h => ?_) (fun cdv A outer s H vs Q E hr h => ?_)
  · obtain ⟨m, pc, pf, s, d, rfl, _⟩ := h
    rfl
  · have hr1 : Room 1 _ := hr.mono (show 1 ≤ k + 1 by omega)
    refine ⟨_, pss_cons (ps_for PassesOwn.never rfl (pi_list (pe_call GB hr1 rfl mB kB bB .nil pass0 (pa_cons (pv 0) (pa_cons (pv 1) (pa_cons (pv 4) pa_nil))))) (pg_name (i := 5) nd rfl (.inl rfl))
      (pss_one (ps_if (PW.pt (pw_and (pt_cmpR op_notN (pe_ix ix_list (pv 3) (pv 5) (fun _ _ => rfl)) pe_non (nomark _)) (pw_and1 (pt_cmpR op_eq (pe_op op_add (pe_ix ix_list (pv 3) (pv 5) (fun _ _ => rfl)) (pe_ix ix_list (pv 2) (pv 5) (fun _ _ => rfl))) (pe_ix ix_list (pv 3) (pv 4) (fun _ _ => rfl)) (nomark _)))))
        (pss_one (ps_ret (pv 5))) pss_nil)))
      (pss_one (ps_ret pe_non)), ?_⟩
    obtain ⟨m, pc, pf, s, d, rfl, L, hs, hd, h0, q⟩ := h
    refine ⟨_, rfl, _, rfl, _, rfl, m.w, m.h, s, rfl, hs, L.w12, fun H1 pb s1 npb e1 => ?_⟩
    have L1 := L.to s1
    refine ⟨pb, rfl, ⟨_, SqL.of e1⟩, for_list (K := K) (a := pb) (xs := nI (bes m.w m.h s)) (fun i σ H' => ∃ v : Option V, σ = [some (.int m.w), some (.int m.h), some (.ref pc), some (.ref pf), some (.int s), v] ∧ H' = H1 ∧ ∀ y ∈ (bes m.w m.h s).take i, makes m d y = false)
      ⟨none, rfl, rfl, fun y hy => by cases hy⟩ (fun i σ H' _ ⟨_, _, z, _⟩ => by rw [z]; exact SqL.of e1) ?_ ?_⟩
    · rintro i y σ H' hi ⟨v, rfl, rfl, hn⟩
      obtain ⟨j, hj, rfl⟩ := nI_mem hi
      have hjl := bes_lt hs (List.mem_of_getElem? hj)
      have more : makes m d j = false → ∀ y ∈ (bes m.w m.h s).take (i + 1), makes m d y = false := fun hz y hy => by
        rw [take_next hj] at hy
        rcases List.mem_append.mp hy with z | z
        · exact hn y z
        · rw [List.mem_singleton.mp z]
          exact hz
      refine ⟨_, rfl, _, rfl, pf, _, _, _, rfl, rfl, L1.fl, L1.f hjl, rfl, _, rfl, ?_⟩
      cases c : fldOf m j with
      | none =>
        refine if_f rfl ⟨_, rfl, rfl, more ?_⟩
        unfold makes
        rw [c]
        rfl
      | some e =>
        refine if_t rfl ⟨_, rfl, _, rfl, pf, _, _, _, rfl, rfl, L1.fl, L1.f hjl, _, rfl, _, rfl, pc, _, _, _, rfl, rfl, L1.cs, L1.c hjl, ?_⟩
        rw [c]
        refine ⟨_, _, rfl, rfl, _, rfl, _, rfl, pf, _, _, _, rfl, rfl, L1.fl, L1.f hs, ?_⟩
        rw [hd]
        have em : decide (V.int ((e : Int) + (ci m j : Int)) = V.int (d : Int)) = makes m d j := by
          unfold makes
          rw [c]
          show _ = (e + ci m j == d)
          by_cases z : e + ci m j = d
          · rw [z, beq_self_eq_true]
            exact decide_eq_true (by rw [← Int.natCast_add, z])
          · rw [beq_eq_false_iff_ne.mpr z]
            exact decide_eq_false fun y => z (by injection y with y; omega)
        refine ⟨rfl, _, rfl, ?_⟩
        show if decide (V.int ((e : Int) + (ci m j : Int)) = V.int (d : Int)) = true then _ else _
        rw [em]
        cases cm : makes m d j with
        | true =>
          refine if_t rfl ⟨_, rfl, ?_⟩
          have z := q _ s1
          rw [nxt_find hd h0, find_at hj cm hn] at z
          exact z
        | false => exact if_f rfl ⟨_, rfl, rfl, more cm⟩
    · rintro σ H' ⟨v, rfl, rfl, hn⟩
      rw [nI_len, List.take_length] at hn
      have z := q _ s1
      rw [nxt_find hd h0, find_no hn] at z
      exact z
/-! ### way_told -/
def spWayTold (K : PySem.W.Frag) : Sp := fun vs H Q _ => ∃ (m : Ge07.Map) (pc pf : Addr) (s : Nat) (l : List Nat), vs = [.int m.w, .int m.h, .ref pc, .ref pf, .int s] ∧ FldAt K H m pc pf ∧ s < m.w * m.h ∧ Way m (fldOf m) s l ∧ l.length ≤ 1000 ∧
  ∀ H' p, Same H H' → H p = none → H' p = some (.lst (nI l)) → Q (.ref p) H'
theorem scWayTold : FnScope ["wide", "high", "costs", "field", "spot", "spots"] ["wide", "high", "costs", "field", "spot"] (defScope sWayTold) := ⟨rfl, rfl, rfl, by decide +kernel, rfl, by decide +kernel, by decide +kernel⟩
theorem ok_wayTold {f fN : Addr} {fd fdN : FuncData} {k : Nat} (F : Fun K "way_told" "way_told" sWayTold f fd)
    (GN : FnOk P w K mg base CX0 2 fN fdN ["wide", "high", "costs", "field", "spot"] (spNextSpot K)) (bN : Binds K fdN ["wide", "high", "costs", "field", "spot"] []) (mN : mg "next_spot" = some (.ref fN)) (kN : PySem.W.keepIn K (.ref fN) = true) :
    FnOk P w K mg base CX0 (k + 3) f fd ["wide", "high", "costs", "field", "spot"] (spWayTold K) := by
  have nd := scWayTold.nd
  refine F.ok scWayTold (fun vs H Q E h => ?_) (fun cdv A outer s H vs Q E hr h => ?_)
  · obtain ⟨m, pc, pf, s, l, rfl, _⟩ := h
    rfl
  · have hr2 : Room 2 _ := hr.mono (show 2 ≤ k + 2 by omega)
    refine ⟨_, pss_cons (ps_set (i := 5) nd rfl (.inl rfl) (pe_lst (pa_cons (pv 4) pa_nil)))
      (pss_cons (ps_while PassesOwn.never (pt_cmpR op_gt (pe_ix ix_list (pv 3) (pv 4) (fun _ _ => rfl)) pe_int (nomark _))
        (pss_cons (ps_set (i := 4) nd rfl (.inl rfl) (pe_call GN hr2 rfl mN kN bN .nil pass0 (pa_cons (pv 0) (pa_cons (pv 1) (pa_cons (pv 2) (pa_cons (pv 3) (pa_cons (pv 4) pa_nil)))))))
        (pss_one (ps_expr (pe_bm PySem.F.plainAttrs_list PySem.F.slot_list_append PySem.F.type_list_append mt_append (pv 5) (pa_cons (pv 4) pa_nil))))))
      (pss_one (ps_ret (pv 5)))), ?_⟩
    obtain ⟨m, pc, pf, s, l, rfl, L, hs, hW, hl, q⟩ := h
    refine ⟨_, rfl, (by show 1 ≤ sizeLine; decide), fun p np => ?_⟩
    let WI : Nat → L2.St → Hp → Prop := fun n σ H' => ∃ (pre r : List Nat) (i : Nat), σ = [some (.int m.w), some (.int m.h), some (.ref pc), some (.ref pf), some (.int i), some (.ref p)] ∧ n = r.length ∧ l = pre ++ i :: r ∧ i < m.w * m.h ∧ Way m (fldOf m) i (i :: r) ∧ Same H H' ∧ H' p = some (.lst (nI (pre ++ [i])))
    obtain ⟨r0, er0⟩ := hW.head
    refine ⟨WI, ⟨_, [], r0, s, rfl, rfl, er0, hs, er0 ▸ hW, same_upd np, upd_same⟩, ?_⟩
    rintro n σ H1 ⟨pre, r, i, rfl, rfl, el, hi, hWi, s1, e1⟩
    have L1 := L.to s1
    refine ⟨_, rfl, _, rfl, pf, _, _, _, rfl, rfl, L1.fl, L1.f hi, ?_⟩
    cases hWi with
    | goal h0 =>
      rw [h0]
      refine ⟨_, _, rfl, rfl, _, rfl, if_f rfl ⟨_, rfl, q H1 p s1 np ?_⟩⟩
      rw [e1, el]
    | @on _ j d _ hd hn hw2 =>
      rw [hd]
      obtain ⟨r2, er2⟩ := hw2.head
      have hf := fld_fix (m := m) L.w0
      obtain ⟨j', x, e1', _, hj', e2', _, _⟩ := nxt_some hf hi hd (Nat.succ_pos _)
      rw [hn] at e1'
      cases e1'
      refine ⟨_, _, rfl, rfl, _, rfl, if_t (decide_eq_true (by show (0 : Int) < ((d + 1 : Nat) : Int); omega)) ⟨fun σ' H' => ∃ m', m' < r.length ∧ WI m' σ' H', fun _ _ z => z, ?_⟩⟩
      refine ⟨_, rfl, _, rfl, _, rfl, _, rfl, _, rfl, m, pc, pf, i, d + 1, rfl, L1, hi, hd, Nat.succ_pos _, fun H2 s2 => ?_⟩
      rw [hn]
      have e2 := s2 _ _ e1
      have hlen : (pre ++ [i]).length ≤ l.length := by
        rw [el, List.length_append, List.length_append]
        show pre.length + 1 ≤ pre.length + (r.length + 1)
        omega
      refine ⟨_, rfl, .inl ⟨rfl, _, .inl (.inl e2)⟩, _, rfl, p, _, _, rfl, rfl, e2, small1000 (by rw [nI_len]; omega), ?_⟩
      refine ⟨r2.length, by rw [er2]; exact Nat.lt_succ_self _, pre ++ [i], r2, j, rfl, rfl, by rw [el, er2, List.append_assoc]; rfl, hj', er2 ▸ hw2, fun b o e => ?_, ?_⟩
      · rw [upd_ne (ne_of_none e np)]
        exact s2 b o (s1 b o e)
      · rw [upd_same, nI_app (pre ++ [i]) [j]]
        rfl
end
end Gf
set_option Elab.async false
set_option linter.all false
set_option maxRecDepth 100000
set_option maxHeartbeats 2000000
namespace Gf
open PySem PySem.Spec PyProof.Rows L2 LamX NdefX
/-! ### Reader -/
abbrev sReader : Stmt := topS 28
abbrev sRInit : Stmt := inClass sReader 0
abbrev sRMore : Stmt := inClass sReader 1
abbrev sRTake : Stmt := inClass sReader 2
abbrev sRPlace : Stmt := inClass sReader 3
abbrev sRRow : Stmt := inClass sReader 4
theorem lk_here {k : Str} {v : V} {r : List (Str × V)} : List.lookup k ((k, v) :: r) = some v := by
  have e : (k == k) = true := beq_self_eq_true k
  simp only [List.lookup, e]
theorem lk_past {k g : Str} {v : V} {r : List (Str × V)} (h : (k == g) = false) : List.lookup k ((g, v) :: r) = List.lookup k r := by
  simp only [List.lookup, h]
theorem put_here {f : Str} {v x : V} {r : List (Str × V)} : putF f v ((f, x) :: r) = (f, v) :: r := if_pos rfl
theorem put_past {f g : Str} {v x : V} {r : List (Str × V)} (h : ¬ g = f) : putF f v ((g, x) :: r) = (g, x) :: putF f v r := if_neg h
def rF (pn : Addr) (i : Nat) : List (Str × V) := [("numbers", .ref pn), ("position", .int i)]
theorem rF_num (pn : Addr) (i : Nat) : (rF pn i).lookup ("numbers" : Str) = some (.ref pn) := lk_here
theorem rF_pos (pn : Addr) (i : Nat) : (rF pn i).lookup ("position" : Str) = some (.int i) := (lk_past (by decide +kernel)).trans lk_here
theorem rF_none (pn : Addr) (i : Nat) {m : Str} (h1 : (m == ("numbers" : Str)) = false) (h2 : (m == ("position" : Str)) = false) : (rF pn i).lookup m = none := (lk_past h1).trans ((lk_past h2).trans rfl)
theorem rF_put (pn : Addr) (i j : Nat) {v : V} (h : v = .int (j : Int)) : putF "position" v (rF pn i) = rF pn j := by
  subst h
  exact (put_past (by decide +kernel)).trans (congrArg _ put_here)
theorem rF_new (pn : Addr) : putF "position" (.int 0) (putF "numbers" (.ref pn) []) = rF pn 0 := (put_past (by decide +kernel)).trans rfl
/-- a list that is handed in: locked, or written: nothing changes it -/
def FzL (K : PySem.W.Frag) (H : Hp) (a : Addr) (xs : List V) : Prop := ∀ H', (∀ b ob u, H b = some (.frz ob u) → H' b = some (.frz ob u)) → SqL K H' a xs
theorem FzL.to {K : PySem.W.Frag} {H H' : Hp} {a : Addr} {xs : List V} (h : FzL K H a xs) (e : ∀ b ob u, H b = some (.frz ob u) → H' b = some (.frz ob u)) : FzL K H' a xs := fun H2 e2 => h H2 fun b ob u q => e2 b ob u (e b ob u q)
theorem FzL.sq {K : PySem.W.Frag} {H : Hp} {a : Addr} {xs : List V} (h : FzL K H a xs) : SqL K H a xs := h H fun _ _ _ q => q
theorem fzL_of {K : PySem.W.Frag} {H : Hp} {a : Addr} {xs : List V} (o : OnlyT H) (h : SqL K H a xs) : FzL K H a xs := fun H' e => by
  rcases h with (h | ⟨ob, h⟩) | h
  · rcases o a _ h with ⟨ob, u, z⟩ | ⟨ps, z⟩ <;> cases z
  · exact .inl (.inr ⟨ob, e _ _ _ h⟩)
  · exact .inr h
/-- the reader at a stands ahead of the i-th number of ns -/
def RdAt (K : PySem.W.Frag) (C : Addr) (H : Hp) (a : Addr) (ns : List Int) (i : Nat) : Prop := ∃ dx pn, H a = some (.ins C dx (rF pn i)) ∧ FzL K H pn (ns.map V.int) ∧ i ≤ ns.length ∧ ns.length ≤ 5000
/-- all but a stands as it was -/
def But (a : Addr) (H H' : Hp) : Prop := ∀ b o, H b = some o → b ≠ a → H' b = some o
theorem But.trans {a : Addr} {H H1 H2 : Hp} (x : But a H H1) (y : But a H1 H2) : But a H H2 := fun b o e n => y b o (x b o e n) n
theorem But.fz {K : PySem.W.Frag} {H H' : Hp} {a p C dx : Addr} {fs : List (Str × V)} {xs : List V} (e : But a H H') (ha : H a = some (.ins C dx fs)) (h : FzL K H p xs) : FzL K H' p xs :=
  h.to fun b ob u q => e _ _ q (ne_of q ha (by intro z; cases z))
theorem Same.fz {K : PySem.W.Frag} {H H' : Hp} {p : Addr} {xs : List V} (e : Same H H') (h : FzL K H p xs) : FzL K H' p xs := h.to fun b ob u q => e _ _ q
structure RTxt (K : PySem.W.Frag) (mg : Str → Option Value) (C : Addr) : Prop where
  cl : Cls K C
  nN : NoAttr K C "numbers"
  nP : NoAttr K C "position"
  gC : mg "Reader" = some (.ref C)
section
variable {P : Program} {w : World} {K : PySem.W.Frag} {mg : Str → Option Value} {base : Heap} {C : Addr}
def spRInit (K : PySem.W.Frag) (C : Addr) : Sp := fun vs H Q _ => ∃ (p dx pn : Addr) (ns : List Int), vs = [.ref p, .ref pn] ∧ H p = some (.ins C dx []) ∧ FzL K H pn (ns.map V.int) ∧ ns.length ≤ 5000 ∧
  ∀ H', RdAt K C H' p ns 0 → But p H H' → Q .non H'
theorem scRInit : FnScope ["self", "numbers"] ["self", "numbers"] (defScope sRInit) := ⟨rfl, rfl, rfl, by decide +kernel, rfl, by decide +kernel, by decide +kernel⟩
theorem ok_rInit {f : Addr} {fd : FuncData} {k : Nat} (F : Fun K "__init__" "Reader.__init__" sRInit f fd) (T : RTxt K mg C) : FnOk P w K mg base CX0 (k + 1) f fd ["self", "numbers"] (spRInit K C) := by
  refine F.ok scRInit (fun vs H Q E h => ?_) (fun cdv A outer s H vs Q E hr h => ⟨_, pss_cons (ps_fld (pv 0) (pv 1) rfl) (pss_one (ps_fld (pv 0) pe_int rfl)), ?_⟩)
  · obtain ⟨p, dx, pn, ns, rfl, _⟩ := h
    rfl
  · obtain ⟨p, dx, pn, ns, rfl, hp, hS, hl, q⟩ := h
    refine ⟨_, rfl, _, rfl, p, C, dx, [], rfl, hp, T.cl, T.nN, (by show 0 < 1000; decide), _, rfl, p, C, dx, _, rfl, upd_same, T.cl, T.nP, (by show 1 < 1000; decide), ?_⟩
    have bt : But p H (upd (upd H p (.ins C dx (putF "numbers" (.ref pn) []))) p (.ins C dx (putF "position" (.int 0) (putF "numbers" (.ref pn) [])))) := fun b o e n => by
      rw [upd_ne n, upd_ne n]
      exact e
    exact q _ ⟨dx, pn, Eq.trans upd_same (congrArg (fun z => some (HO.ins C dx z)) (rF_new pn)), bt.fz hp hS, Nat.zero_le _, hl⟩ bt
def spRMore (K : PySem.W.Frag) (C : Addr) : Sp := fun vs H Q _ => ∃ (a : Addr) (ns : List Int) (i : Nat), vs = [.ref a] ∧ RdAt K C H a ns i ∧ Q (.bl (decide (i < ns.length))) H
theorem scRMore : FnScope ["self"] ["self"] (defScope sRMore) := ⟨rfl, rfl, rfl, by decide +kernel, rfl, by decide +kernel, by decide +kernel⟩
theorem ok_rMore {f : Addr} {fd : FuncData} {k : Nat} (F : Fun K "has_more" "Reader.has_more" sRMore f fd) (T : RTxt K mg C) (mL : mg "len" = none) : FnOk P w K mg base CX0 (k + 1) f fd ["self"] (spRMore K C) := by
  refine F.ok scRMore (fun vs H Q E h => ?_) (fun cdv A outer s H vs Q E hr h => ⟨_, pss_one (ps_ret (pe_cmpR op_lt (pe_fld (pv 0) rfl) (pe_callB call_len_seq (by rfl) mL PySem.boot_len (pa_cons (pe_fld (pv 0) rfl) pa_nil)) (nomark _))), ?_⟩)
  · obtain ⟨a, ns, i, rfl, _⟩ := h
    rfl
  · obtain ⟨a, ns, i, rfl, ⟨dx, pn, h1, hS, hi, hl⟩, q⟩ := h
    refine ⟨_, rfl, a, C, dx, _, _, rfl, h1, T.cl, T.nP, rF_pos pn i, _, rfl, a, C, dx, _, _, rfl, h1, T.cl, T.nN, rF_num pn i, pn, _, rfl, .inl hS.sq, _, _, rfl, rfl, ?_⟩
    have e : decide ((i : Int) < ((ns.map V.int).length : Int)) = decide (i < ns.length) := by
      rw [List.length_map]
      exact decide_eq_decide.mpr (by omega)
    show Q (.bl (decide ((i : Int) < ((ns.map V.int).length : Int)))) H
    rw [e]
    exact q
def spRTake (K : PySem.W.Frag) (C : Addr) : Sp := fun vs H Q _ => ∃ (a : Addr) (ns : List Int) (i : Nat) (n : Int), vs = [.ref a] ∧ RdAt K C H a ns i ∧ ns[i]? = some n ∧ ∀ H', RdAt K C H' a ns (i + 1) → But a H H' → Q (.int n) H'
theorem scRTake : FnScope ["self", "number"] ["self"] (defScope sRTake) := ⟨rfl, rfl, rfl, by decide +kernel, rfl, by decide +kernel, by decide +kernel⟩
theorem ok_rTake {f : Addr} {fd : FuncData} {k : Nat} (F : Fun K "take" "Reader.take" sRTake f fd) (T : RTxt K mg C) : FnOk P w K mg base CX0 (k + 1) f fd ["self"] (spRTake K C) := by
  refine F.ok scRTake (fun vs H Q E h => ?_) (fun cdv A outer s H vs Q E hr h => ⟨_, pss_cons (ps_set (i := 1) scRTake.nd rfl (.inl rfl) (pe_ix ix_list (pe_fld (pv 0) rfl) (pe_fld (pv 0) rfl) (fun _ _ => rfl)))
    (pss_cons (ps_fldaug (pv 0) pe_int in_add) (pss_one (ps_ret (pv 1)))), ?_⟩)
  · obtain ⟨a, ns, i, n, rfl, _⟩ := h
    rfl
  · obtain ⟨a, ns, i, n, rfl, ⟨dx, pn, h1, hS, hi, hl⟩, hn, q⟩ := h
    refine ⟨_, rfl, a, C, dx, _, _, rfl, h1, T.cl, T.nN, rF_num pn i, _, rfl, a, C, dx, _, _, rfl, h1, T.cl, T.nP, rF_pos pn i, pn, _, _, .int n, rfl, rfl, hS.sq, atI_nat (by rw [List.getElem?_map, hn]; rfl), ?_⟩
    refine ⟨_, rfl, a, C, dx, _, _, rfl, h1, T.cl, T.nP, rF_pos pn i, _, _, rfl, rfl, dx, _, h1, (by show 2 < 1000; decide), _, rfl, ?_⟩
    have bt : But a H (upd H a (.ins C dx (putF "position" (.int ((i : Int) + 1)) (rF pn i)))) := fun b o e z => by
      rw [upd_ne z]
      exact e
    exact q _ ⟨dx, pn, Eq.trans upd_same (congrArg (fun z => some (HO.ins C dx z)) (rF_put pn i (i + 1) rfl)), bt.fz h1 hS, (List.getElem?_eq_some_iff.mp hn).1, hl⟩ bt
def spRPlace (K : PySem.W.Frag) (C : Addr) : Sp := fun vs H Q _ => ∃ (a : Addr) (ns : List Int) (i : Nat) (x y : Int), vs = [.ref a] ∧ RdAt K C H a ns i ∧ ns[i]? = some x ∧ ns[i + 1]? = some y ∧
  ∀ H' p, RdAt K C H' a ns (i + 2) → But a H H' → H p = none → H' p = some (.tup [.int x, .int y]) → Q (.ref p) H'
theorem scRPlace : FnScope ["self", "column", "row"] ["self"] (defScope sRPlace) := ⟨rfl, rfl, rfl, by decide +kernel, rfl, by decide +kernel, by decide +kernel⟩
theorem RdAt.new {K : PySem.W.Frag} {C : Addr} {H : Hp} {a p : Addr} {ns : List Int} {i : Nat} {o : HO} (h : RdAt K C H a ns i) (hp : H p = none) : RdAt K C (upd H p o) a ns i := by
  obtain ⟨dx, pn, h1, hS, r⟩ := h
  exact ⟨dx, pn, (same_upd hp) _ _ h1, Same.fz (same_upd hp) hS, r⟩
theorem ok_rPlace {f fT : Addr} {fd fdT : FuncData} {k : Nat} (F : Fun K "take_place" "Reader.take_place" sRPlace f fd) (T : RTxt K mg C) (GT : FnOk P w K mg base CX0 1 fT fdT ["self"] (spRTake K C)) (bT : Binds K fdT ["self"] []) (mT : Meth K C "take" fT) :
    FnOk P w K mg base CX0 (k + 2) f fd ["self"] (spRPlace K C) := by
  refine F.ok scRPlace (fun vs H Q E h => ?_) (fun cdv A outer s H vs Q E hr h => ?_)
  · obtain ⟨a, ns, i, x, y, rfl, _⟩ := h
    rfl
  · have hr1 : Room 1 _ := hr.mono (show 1 ≤ k + 1 by omega)
    refine ⟨_, pss_cons (ps_set (i := 1) scRPlace.nd rfl (.inl rfl) (pe_meth0 (pv 0) T.cl mT GT hr1 bT .nil pass0))
      (pss_cons (ps_set (i := 2) scRPlace.nd rfl (.inl rfl) (pe_meth0 (pv 0) T.cl mT GT hr1 bT .nil pass0)) (pss_one (ps_ret (pe_tup (pa_cons (pv 1) (pa_cons (pv 2) pa_nil)))))), ?_⟩
    obtain ⟨a, ns, i, x, y, rfl, hA, hx, hy, q⟩ := h
    obtain ⟨dx, pn, h1, _⟩ := id hA
    refine ⟨_, rfl, a, dx, _, rfl, h1, rF_none pn i (by decide +kernel) (by decide +kernel), a, ns, i, x, rfl, hA, hx, fun H1 A1 b1 => ?_⟩
    obtain ⟨dx1, pn1, h2, _⟩ := id A1
    refine ⟨_, rfl, a, dx1, _, rfl, h2, rF_none pn1 (i + 1) (by decide +kernel) (by decide +kernel), a, ns, i + 1, y, rfl, A1, hy, fun H2 A2 b2 => ?_⟩
    refine ⟨_, rfl, _, rfl, (by show 2 ≤ sizeLine; decide), fun p hp => ?_⟩
    have np : H p = none := by
      cases c : H p with
      | none => rfl
      | some o =>
        by_cases e : p = a
        · obtain ⟨_, _, h3, _⟩ := A2
          rw [e, h3] at hp
          cases hp
        · rw [b2 p o (b1 p o c e) e] at hp
          cases hp
    exact q _ p (A2.new hp) (fun b o e n => (same_upd hp) b o (b2 b o (b1 b o e n) n)) np upd_same
theorem cutV_mid {xs : List V} {i n : Nat} (h : i + n ≤ xs.length) : cutV xs (some (i : Int)) (some ((i + n : Nat) : Int)) = (xs.drop i).take n := by
  unfold cutV
  rw [HT.sIx_nat, HT.sIx_nat, show min i xs.length = i by omega, show min (i + n) xs.length = i + n by omega, Nat.add_sub_cancel_left]
def spRRow (K : PySem.W.Frag) (C : Addr) : Sp := fun vs H Q _ => ∃ (a : Addr) (ns : List Int) (i n : Nat), vs = [.ref a] ∧ RdAt K C H a ns i ∧ ns[i]? = some (n : Int) ∧ i + 1 + n ≤ ns.length ∧
  ∀ H' p, RdAt K C H' a ns (i + 1 + n) → But a H H' → H p = none → H' p = some (.lst (((ns.drop (i + 1)).take n).map V.int)) → Q (.ref p) H'
theorem scRRow : FnScope ["self", "length", "start"] ["self"] (defScope sRRow) := ⟨rfl, rfl, rfl, by decide +kernel, rfl, by decide +kernel, by decide +kernel⟩
theorem ok_rRow {f fT : Addr} {fd fdT : FuncData} {k : Nat} (F : Fun K "take_row" "Reader.take_row" sRRow f fd) (T : RTxt K mg C) (GT : FnOk P w K mg base CX0 1 fT fdT ["self"] (spRTake K C)) (bT : Binds K fdT ["self"] []) (mT : Meth K C "take" fT) :
    FnOk P w K mg base CX0 (k + 2) f fd ["self"] (spRRow K C) := by
  refine F.ok scRRow (fun vs H Q E h => ?_) (fun cdv A outer s H vs Q E hr h => ?_)
  · obtain ⟨a, ns, i, n, rfl, _⟩ := h
    rfl
  · have hr1 : Room 1 _ := hr.mono (show 1 ≤ k + 1 by omega)
    refine ⟨_, pss_cons (ps_set (i := 1) scRRow.nd rfl (.inl rfl) (pe_meth0 (pv 0) T.cl mT GT hr1 bT .nil pass0))
      (pss_cons (ps_set (i := 2) scRRow.nd rfl (.inl rfl) (pe_fld (pv 0) rfl)) (pss_cons (ps_fldaug (pv 0) (pv 1) in_add)
      (pss_one (ps_ret (pe_slice sl_list (pe_fld (pv 0) rfl) (po_some (pv 2)) (po_some (pe_fld (pv 0) rfl))))))), ?_⟩
    obtain ⟨a, ns, i, n, rfl, hA, hx, hle, q⟩ := h
    obtain ⟨dx, pn, h1, _⟩ := id hA
    refine ⟨_, rfl, a, dx, _, rfl, h1, rF_none pn i (by decide +kernel) (by decide +kernel), a, ns, i, _, rfl, hA, hx, fun H1 A1 b1 => ?_⟩
    obtain ⟨dx1, pn1, h2, hS, hi, hl⟩ := A1
    refine ⟨_, rfl, a, C, dx1, _, _, rfl, h2, T.cl, T.nP, rF_pos pn1 (i + 1), _, rfl, a, C, dx1, _, _, rfl, h2, T.cl, T.nP, rF_pos pn1 (i + 1), _, rfl, _, _, rfl, rfl, dx1, _, h2, (by show 2 < 1000; decide), ?_⟩
    have e2 : putF "position" (.int (((i + 1 : Nat) : Int) + (n : Int))) (rF pn1 (i + 1)) = rF pn1 (i + 1 + n) := rF_put pn1 (i + 1) (i + 1 + n) rfl
    rw [e2]
    have bt : But a H1 (upd H1 a (.ins C dx1 (rF pn1 (i + 1 + n)))) := fun b o e z => by
      rw [upd_ne z]
      exact e
    have hS2 := bt.fz h2 hS
    refine ⟨_, rfl, a, C, dx1, _, _, rfl, upd_same, T.cl, T.nN, rF_num pn1 (i + 1 + n), _, rfl, _, rfl, _, rfl, a, C, dx1, _, _, rfl, upd_same, T.cl, T.nP, rF_pos pn1 (i + 1 + n), _, rfl, pn1, _, rfl, hS2.sq, fun p hp => ?_⟩
    have A2 : RdAt K C (upd H1 a (.ins C dx1 (rF pn1 (i + 1 + n)))) a ns (i + 1 + n) := ⟨dx1, pn1, upd_same, hS2, hle, hl⟩
    have np : H p = none := by
      cases c : H p with
      | none => rfl
      | some o =>
        by_cases e : p = a
        · rw [e, upd_same] at hp
          cases hp
        · rw [bt p o (b1 p o c e) e] at hp
          cases hp
    refine q _ p (A2.new hp) (fun b o e z => (same_upd hp) b o (bt b o (b1 b o e z) z)) np ?_
    rw [upd_same]
    have ec : cutV (ns.map V.int) (some ((i + 1 : Nat) : Int)) (some ((i + 1 + n : Nat) : Int)) = ((ns.drop (i + 1)).take n).map V.int := by
      rw [cutV_mid (by rw [List.length_map]; exact hle), List.map_take, List.map_drop]
    exact congrArg (fun z => some (HO.lst z)) ec
end
end Gf
set_option Elab.async false
set_option linter.all false
set_option maxRecDepth 100000
set_option maxHeartbeats 2000000
namespace Gf
open PySem PySem.Spec PyProof.Rows L2 LamX NdefX
/-! ### a call of what an item of a tuple holds: t[i](a, ..) -/
def tCallE (tf : TE) (S : Addr → Sp → Prop) (t : TA) : TE := fun σ H Q => tf σ H fun v H1 => ∃ f sp, v = .ref f ∧ S f sp ∧ t σ H1 fun vs H2 => sp vs H2 Q E0
/-- a def that keeps its promise, to be called by its value -/
structure Keeps (P : Program) (w : World) (K : PySem.W.Frag) (mg : Str → Option Value) (base : Heap) (k : Nat) (f : Addr) (sp : Sp) : Prop where
  kept : ∃ (fd : FuncData) (ps : List Str), (FnOk P w K mg base CX0 k f fd ps sp) ∧ (PySem.W.keepIn K (.ref f) = true) ∧ Binds K fd ps []
theorem pe_callE {X : Cx} {k : Nat} {S : Addr → Sp → Prop} {o i e : Expr} {es : List Expr} {ipos pos : Pos} {tf : TE} {t : TA} (hS : ∀ f sp, S f sp → Keeps X.prog X.w X.K X.mg X.base k f sp) (hr : Room k X.A) (hf : PE X (.Subscript o i ipos) tf) (ha : PA X (e :: es) t)
    (hst : starEach (e :: es) X.env = (false, eval e X.env) :: starEach es X.env := by rfl)
    (hpl : (backTo pos (starEach es X.env)).any (·.1) = false := by rfl) (hev : eval (.Call (.Subscript o i ipos) (e :: es) [] pos) X.env = (do callWith pos (← eval (.Subscript o i ipos) X.env) [] (backTo pos (starEach (e :: es) X.env)) (backToKw pos (keywordEach [] X.env))) := by rfl) :
    PE X (.Call (.Subscript o i ipos) (e :: es) [] pos) (tCallE tf S t) := by
  refine ⟨fun pins s σ H Q I h => ?_⟩
  rw [hev]
  refine wpAny_bind (thn (hf.run pins s σ H _ I h) fun u s1 ⟨v, H1, I1, r1, f, sp, ev, eS, ht⟩ => ?_)
  subst ev
  cases r1
  obtain ⟨fd, ps, F, hk, hb⟩ := (hS f sp eS).kept
  refine PySem.W.callWith_K (h₀ := X.base) I.ok.mod.kin hk (thn (ha.run pos pins s1 σ _ _ I1 ht) fun us s2 ⟨vs, H2, I2, r, q⟩ => ⟨I2.kIn, ?_⟩) hst hpl
  refine run_fn (dvs := []) (ds := []) F hr hb .nil pass0 I2 r ?_
  rw [List.append_nil]
  exact q
/-! ### the machine, call by call -/
open Ge07 (House) in
def runs (s : House) (cs : List Ge07.Call) : House := cs.foldl (fun s c => (Ge07.step s c).1) s
theorem play_app : ∀ (a b : List Ge07.Call) (s : Ge07.House), play s (a ++ b) = play s a ++ play (runs s a) b
  | [], _, _ => rfl
  | c :: a, b, s => congrArg (_ :: ·) (play_app a b _)
theorem told_app (a b : List (List Int)) : PyFlat.told (a ++ b) = PyFlat.told a ++ PyFlat.told b := List.flatMap_append
theorem told_le {cs : List Ge07.Call} (j : Nat) : (PyFlat.told (play Ge07.init (cs.take j))).length ≤ (PyFlat.told (play Ge07.init cs)).length := by
  have e : cs = cs.take j ++ cs.drop j := (List.take_append_drop j cs).symm
  rw [show play Ge07.init cs = play Ge07.init (cs.take j ++ cs.drop j) from congrArg _ e, play_app, told_app, List.length_append]
  omega
theorem enc_cons (c : Ge07.Call) : ∃ k : Nat, k < 12 ∧ enc c = nz k :: (enc c).tail := by
  cases c with
  | map w h c => exact ⟨0, by decide, rfl⟩
  | set p c => exact ⟨1, by decide, rfl⟩
  | goal p => exact ⟨2, by decide, rfl⟩
  | noGoal p => exact ⟨3, by decide, rfl⟩
  | far p => exact ⟨4, by decide, rfl⟩
  | field => exact ⟨5, by decide, rfl⟩
  | way p => exact ⟨6, by decide, rfl⟩
  | next p => exact ⟨7, by decide, rfl⟩
  | put p => exact ⟨8, by decide, rfl⟩
  | go n => exact ⟨9, by decide, rfl⟩
  | crowd => exact ⟨10, by decide, rfl⟩
  | changed p c => exact ⟨11, by decide, rfl⟩
/-! ### the land, as the calls see it: LA H a g ft: at a stands what holds the house g; ft: all objects that it leans on -/
abbrev LandP := Hp → Addr → Ge07.House → List Addr → Prop
structure LandOk (LA : LandP) : Prop where
  frame : ∀ {H H' : Hp} {a : Addr} {g : Ge07.House} {ft : List Addr}, LA H a g ft → (∀ b ∈ ft, H' b = H b) → LA H' a g ft
  there : ∀ {H : Hp} {a : Addr} {g : Ge07.House} {ft : List Addr}, LA H a g ft → ∀ b ∈ ft, ∃ o, H b = some o ∧ (∀ ps, o ≠ .tbl ps) ∧ ∀ ob u, o ≠ .frz ob u
  self : ∀ {H : Hp} {a : Addr} {g : Ge07.House} {ft : List Addr}, LA H a g ft → a ∈ ft
/-- not tracked (or a table) -/
def Fresh (H : Hp) (p : Addr) : Prop := ∀ o, H p = some o → ∃ ps, o = .tbl ps
theorem fresh_of {H : Hp} {p : Addr} (h : H p = none) : Fresh H p := fun o e => by rw [h] at e; cases e
theorem Fresh.ne {H : Hp} {p b : Addr} {o : HO} (h : Fresh H p) (e : H b = some o) (n : ∀ ps, o ≠ .tbl ps) : b ≠ p := fun z => by
  rw [z] at e
  obtain ⟨ps, q⟩ := h o e
  exact n ps q
/-- what a call's def is asked and promises: k its number -/
def spCall (LA : LandP) (K : PySem.W.Frag) (CR : Addr) (T : List (Addr × Str)) (k : Nat) : Sp := fun vs H Q _ => ∃ (la ra : Addr) (g : Ge07.House) (ft : List Addr) (ns : List Int) (i : Nat) (c : Ge07.Call) (rest : List Int),
  vs = [.ref la, .ref ra] ∧ LA H la g ft ∧ RdAt K CR H ra ns i ∧ ra ∉ ft ∧ Tabs T H ∧ enc c = nz k :: (enc c).tail ∧ few c ∧ ns.drop i = (enc c).tail ++ rest ∧ (∃ pre, g = runs Ge07.init pre) ∧
  ∀ (H' : Hp) (p : Addr) (ft' : List Addr), LA H' la (Ge07.step g c).1 ft' → (∀ b ∈ ft', b ∈ ft ∨ Fresh H b) → RdAt K CR H' ra ns (i + (enc c).tail.length) →
    (∀ b o, H b = some o → b ∉ ft → b ≠ ra → (∀ ps, o ≠ .tbl ps) → H' b = some o) → Tabs T H' → Fresh H p → H' p = some (.lst ((Ge07.step g c).2.map V.int)) → Q (.ref p) H'
/-- Land(): nothing but the new object and new ones is touched -/
def spLInit (LA : LandP) (C : Addr) (T : List (Addr × Str)) : Sp := fun vs H Q _ => ∃ (p dx : Addr), vs = [.ref p] ∧ H p = some (.ins C dx []) ∧
  ∀ H' ft, LA H' p Ge07.init ft → (∀ b ∈ ft, b = p ∨ H b = none) → But p H H' → Q .non H'
abbrev sAnswers : Stmt := topS 30
def spAnswers (K : PySem.W.Frag) (T : List (Addr × Str)) : Sp := fun vs H Q _ => ∃ (pn : Addr) (cs : List Ge07.Call), vs = [.ref pn] ∧ FzL K H pn ((cs.flatMap enc).map V.int) ∧ (cs.flatMap enc).length ≤ 5000 ∧ (∀ c ∈ cs, few c) ∧
  (PyFlat.told (play Ge07.init cs)).length ≤ 10000000 ∧ Tabs T H ∧ ∀ H' p, H' p = some (.lst ((PyFlat.told (play Ge07.init cs)).map V.int)) → Q (.ref p) H'
theorem scAnswers : FnScope ["calls", "land", "reader", "told", "number", "answer"] ["calls"] (defScope sAnswers) := ⟨rfl, rfl, rfl, by decide +kernel, rfl, by decide +kernel, by decide +kernel⟩
theorem seq_ne {K : PySem.W.Frag} {H : Hp} {a p : Addr} {xs : List V} {u o : HO} (hn : H p = none) (h : SqL K H a xs) : SqL K (upd H p o) a xs := (same_upd hn).seq h
theorem tabs_but {T : List (Addr × Str)} {H H' : Hp} {a : Addr} {u : HO} (t : Tabs T H) (ha : H a = some u) (h1 : ∀ ps, u ≠ .tbl ps) (h2 : ∀ φ, u ≠ .ext φ) (bt : But a H H') : Tabs T H' := fun p hp => by
  obtain ⟨ps, e1, e2, e3⟩ := t p hp
  refine ⟨ps, bt _ _ e1 (fun z => by rw [z, ha] at e1; exact h1 _ (Option.some.inj e1)), e2, fun pos cv hc => ?_⟩
  obtain ⟨c, r1, r2⟩ := e3 pos cv hc
  exact ⟨c, r1, bt _ _ r2 (fun z => by rw [z, ha] at r2; exact h2 _ (Option.some.inj r2))⟩
section
variable {P : Program} {w : World} {K : PySem.W.Frag} {mg : Str → Option Value} {base : Heap} {CL CR : Addr} {LA : LandP} {T : List (Addr × Str)}
theorem ok_answers {f fLI fRI fM fT pC : Addr} {fd fdLI fdRI fdM fdT : FuncData} {fcs : List Addr} {k : Nat} (F : Fun K "answers" "answers" sAnswers f fd) (LO : LandOk LA) (TR : RTxt K mg CR)
    (gL : mg "Land" = some (.ref CL)) (ML : Mk K CL fLI) (GLI : FnOk P w K mg base CX0 k fLI fdLI ["self"] (spLInit LA CL T)) (bLI : Binds K fdLI ["self"] [])
    (MR : Mk K CR fRI) (GRI : FnOk P w K mg base CX0 1 fRI fdRI ["self", "numbers"] (spRInit K CR)) (bRI : Binds K fdRI ["self", "numbers"] [])
    (GM : FnOk P w K mg base CX0 1 fM fdM ["self"] (spRMore K CR)) (bM : Binds K fdM ["self"] []) (mM : Meth K CR "has_more" fM)
    (GT : FnOk P w K mg base CX0 1 fT fdT ["self"] (spRTake K CR)) (bT : Binds K fdT ["self"] []) (mT : Meth K CR "take" fT)
    (gC : mg "CALLS" = some (.ref pC)) (hC : ∀ H, SqT K H pC (fcs.map V.ref)) (h12 : fcs.length = 12) (hcs : ∀ (i : Nat) (fc : Addr), fcs[i]? = some fc → Keeps P w K mg base k fc (spCall LA K CR T i)) (mL : mg "len" = none) :
    FnOk P w K mg base CX0 (k + 3) f fd ["calls"] (spAnswers K T) := by
  refine F.ok scAnswers (fun vs H Q E h => ?_) (fun cdv A outer s H vs Q E hr h => ?_)
  · obtain ⟨pn, cs, rfl, _⟩ := h
    rfl
  · have nd := scAnswers.nd
    have hr1 : Room 1 _ := hr.mono (show 1 ≤ k + 2 by omega)
    have hr2 : Room 2 _ := hr.mono (show 2 ≤ k + 2 by omega)
    have hrk : Room k _ := hr.mono (show k ≤ k + 2 by omega)
    have hrk1 : Room (k + 1) _ := hr.mono (show k + 1 ≤ k + 2 by omega)
    let S : Addr → Sp → Prop := fun a sp => ∃ i : Nat, fcs[i]? = some a ∧ sp = spCall LA K CR T i
    have hS : ∀ a sp, S a sp → Keeps P w K mg base k a sp := fun a sp ⟨i, e1, e2⟩ => by
      rw [e2]
      exact hcs i a e1
    refine ⟨_, pss_cons (ps_set (i := 1) nd rfl (.inl rfl) (pe_make0 ML GLI hrk1 rfl gL bLI .nil pass0))
      (pss_cons (ps_set (i := 2) nd rfl (.inl rfl) (pe_make MR GRI hr2 rfl TR.gC bRI .nil pass0 (pa_cons (pv 0) pa_nil)))
      (pss_cons (ps_set (i := 3) nd rfl (.inl rfl) (pe_lst pa_nil))
      (pss_cons (ps_while PassesOwn.never (pt_val (pe_meth0 (pv 2) TR.cl mM GM hr1 bM .nil pass0))
        (pss_cons (ps_set (i := 4) nd rfl (.inl rfl) (pe_meth0 (pv 2) TR.cl mT GT hr1 bT .nil pass0))
        (pss_cons (ps_set (i := 5) nd rfl (.inl rfl) (pe_callE hS hrk (pe_ix ix_tup (pe_glob (v := .ref pC) rfl gC rfl) (pv 4) (fun _ _ => rfl)) (pa_cons (pv 1) (pa_cons (pv 2) pa_nil))))
        (pss_cons (ps_expr (pe_bm PySem.F.plainAttrs_list PySem.F.slot_list_append PySem.F.type_list_append mt_append (pv 3) (pa_cons (pe_callB call_len_seq (by rfl) mL PySem.boot_len (pa_cons (pv 5) pa_nil)) pa_nil)))
        (pss_one (ps_expr (pe_bm PySem.F.plainAttrs_list PySem.F.slot_list_extend PySem.F.type_list_extend mt_extend (pv 3) (pa_cons (pv 5) pa_nil))))))))
      (pss_one (ps_ret (pv 3)))))), ?_⟩
    obtain ⟨pn, cs, rfl, hN, h5000, hfew, h10, hTb, q⟩ := h
    -- land = Land()
    intro x dx nx ndx nex
    have t0 : Tabs T (upd (upd H dx (.own x)) x (.ins CL dx [])) := tabs_new (tabs_new hTb ndx) (by rw [upd_ne (fun z => nex z.symm)]; exact nx)
    refine ⟨x, dx, rfl, upd_same, fun H1 ft L1 hft1 b1 => ⟨rfl, ?_⟩⟩
    have s1 : Same H H1 := fun b o e => b1 b o (by rw [upd_ne (ne_of_none e nx), upd_ne (ne_of_none e ndx)]; exact e) (ne_of_none e nx)
    have t1 : Tabs T H1 := tabs_but t0 upd_same (fun _ z => by cases z) (fun _ z => by cases z) b1
    -- reader = Reader(calls)
    refine ⟨_, rfl, fun ra dr nra ndr ner => ?_⟩
    have nra2 : upd H1 dr (.own ra) ra = none := by rw [upd_ne (fun z => ner z.symm)]; exact nra
    have s2 : Same H1 (upd (upd H1 dr (.own ra)) ra (.ins CR dr [])) := (same_upd ndr).trans (same_upd nra2)
    have n1 : FzL K (upd (upd H1 dr (.own ra)) ra (.ins CR dr [])) pn ((cs.flatMap enc).map V.int) := Same.fz s2 (Same.fz s1 hN)
    refine ⟨ra, dr, pn, cs.flatMap enc, rfl, upd_same, n1, h5000, fun H2 R2 b2 => ⟨rfl, Nat.zero_le _, fun pt npt => ?_⟩⟩
    have t2 : Tabs T H2 := tabs_but (t1.ext s2) upd_same (fun _ z => by cases z) (fun _ z => by cases z) b2
    have nraf : ra ∉ ft := fun z => by
      obtain ⟨o, e, _⟩ := LO.there L1 ra z
      rw [nra] at e
      cases e
    have ndrf : dr ∉ ft := fun z => by
      obtain ⟨o, e, _⟩ := LO.there L1 dr z
      rw [ndr] at e
      cases e
    have L2' : LA H2 x Ge07.init ft := LO.frame L1 fun b hb => by
      obtain ⟨o, e, _⟩ := LO.there L1 b hb
      have hne : b ≠ ra := fun z => nraf (z ▸ hb)
      rw [b2 b o (s2 b o e) hne, e]
    have nptf : pt ∉ ft := fun z => by
      obtain ⟨o, e, _⟩ := LO.there L2' pt z
      rw [npt] at e
      cases e
    -- the loop
    let WI : Nat → L2.St → Hp → Prop := fun m σ H' => ∃ (j : Nat) (ft : List Addr) (y4 y5 : Option V), σ = [some (.ref pn), some (.ref x), some (.ref ra), some (.ref pt), y4, y5] ∧ m = cs.length - j ∧ j ≤ cs.length ∧
      LA H' x (runs Ge07.init (cs.take j)) ft ∧ RdAt K CR H' ra (cs.flatMap enc) ((cs.take j).flatMap enc).length ∧ ra ∉ ft ∧ pt ∉ ft ∧ ra ≠ pt ∧ H' pt = some (.lst ((PyFlat.told (play Ge07.init (cs.take j))).map V.int)) ∧ Tabs T H'
    have hrp : ra ≠ pt := fun z => by
      obtain ⟨dx, pn, h1, _⟩ := R2
      rw [z, npt] at h1
      cases h1
    refine ⟨WI, ⟨_, 0, ft, none, none, rfl, rfl, Nat.zero_le _, LO.frame L2' (fun b hb => upd_ne (fun z => nptf (z ▸ hb))), R2.new npt, nraf, nptf, hrp, upd_same, tabs_new t2 npt⟩, ?_⟩
    rintro m σ H3 ⟨j, ft3, y4, y5, rfl, rfl, hj, L3, R3, nra3, npt3, _, e3, t3⟩
    obtain ⟨dR, pR, hR3, _⟩ := id R3
    refine ⟨_, rfl, ra, dR, _, rfl, hR3, rF_none pR _ (by decide +kernel) (by decide +kernel), ra, _, _, rfl, R3, _, rfl, ?_⟩
    have esp : cs.flatMap enc = (cs.take j).flatMap enc ++ (cs.drop j).flatMap enc := by
      rw [← List.flatMap_append, List.take_append_drop]
    by_cases hjl : j < cs.length
    · obtain ⟨c, hc⟩ : ∃ c, cs[j]? = some c := ⟨_, List.getElem?_eq_getElem hjl⟩
      have ed : cs.drop j = c :: cs.drop (j + 1) := by
        rw [List.drop_eq_getElem_cons hjl]
        congr 1
        rw [List.getElem?_eq_getElem hjl] at hc
        exact Option.some.inj hc
      obtain ⟨kc, hk12, ek⟩ := enc_cons c
      have edr : (cs.flatMap enc).drop ((cs.take j).flatMap enc).length = nz kc :: ((enc c).tail ++ (cs.drop (j + 1)).flatMap enc) := by
        have e1 : (cs.drop j).flatMap enc = enc c ++ (cs.drop (j + 1)).flatMap enc := by rw [ed]; rfl
        rw [esp, List.drop_left, e1, ek]
        rfl
      have hget : (cs.flatMap enc)[((cs.take j).flatMap enc).length]? = some (nz kc) := by
        rw [← List.head?_drop, edr]
        rfl
      have hlt : ((cs.take j).flatMap enc).length < (cs.flatMap enc).length := (List.getElem?_eq_some_iff.mp hget).1
      refine if_t (decide_eq_true hlt) ⟨fun σ' H' => ∃ m', m' < cs.length - j ∧ WI m' σ' H', fun _ _ z => z, ?_⟩
      -- number = reader.take()
      refine ⟨_, rfl, ra, dR, _, rfl, hR3, rF_none pR _ (by decide +kernel) (by decide +kernel), ra, _, _, _, rfl, R3, hget, fun H4 R4 b4 => ?_⟩
      have L4 : LA H4 x (runs Ge07.init (cs.take j)) ft3 := LO.frame L3 fun b hb => by
        obtain ⟨o, e, _⟩ := LO.there L3 b hb
        rw [b4 b o e (fun z => nra3 (z ▸ hb)), e]
      have e4 : H4 pt = some (.lst ((PyFlat.told (play Ge07.init (cs.take j))).map V.int)) := b4 _ _ e3 hrp.symm
      have t4 : Tabs T H4 := tabs_but t3 hR3 (fun _ z => by cases z) (fun _ z => by cases z) b4
      -- answer = CALLS[number](land, reader)
      obtain ⟨fc, hfc⟩ : ∃ fc, fcs[kc]? = some fc := ⟨_, List.getElem?_eq_getElem (by omega)⟩
      refine ⟨_, rfl, pC, _, _, .ref fc, rfl, rfl, hC H4, atI_nat (by rw [List.getElem?_map, hfc]; rfl), fc, _, rfl, ⟨kc, hfc, rfl⟩, _, rfl, _, rfl, x, ra, _, ft3, _, _, c, (cs.drop (j + 1)).flatMap enc, rfl, L4, R4, nra3, t4, ek, hfew c (List.mem_of_getElem? hc), ?_, ⟨_, rfl⟩, fun H5 pa ft5 L5 hft5 R5 k5 t5 npa ea => ?_⟩
      · rw [← List.drop_drop, edr]
        rfl
      have npt5 : pt ∉ ft5 := fun z => by
        rcases hft5 pt z with z | z
        · exact npt3 z
        · exact z.ne e4 (fun _ z => by cases z) rfl
      have nra5 : ra ∉ ft5 := fun z => by
        obtain ⟨_, _, h4, _⟩ := R4
        rcases hft5 ra z with z | z
        · exact nra3 z
        · exact z.ne h4 (fun _ z => by cases z) rfl
      have e5 : H5 pt = some (.lst ((PyFlat.told (play Ge07.init (cs.take j))).map V.int)) := k5 pt _ e4 npt3 hrp.symm fun _ z => by cases z
      have npap : pa ≠ pt := (npa.ne e4 fun _ z => by cases z).symm
      have hstep : play Ge07.init (cs.take (j + 1)) = play Ge07.init (cs.take j) ++ [(Ge07.step (runs Ge07.init (cs.take j)) c).2] := by
        rw [take_next hc, play_app]
        rfl
      have htold : PyFlat.told (play Ge07.init (cs.take (j + 1))) = PyFlat.told (play Ge07.init (cs.take j)) ++ (((Ge07.step (runs Ge07.init (cs.take j)) c).2.length : Int) :: (Ge07.step (runs Ge07.init (cs.take j)) c).2) := by
        rw [hstep, told_app]
        show _ ++ ((_ :: _) ++ []) = _
        rw [List.append_nil]
      have hlen := told_le (cs := cs) (j + 1)
      rw [htold, List.length_append, List.length_cons] at hlen
      have hbig : (10000000 : Nat) < sizeLine := by decide
      have hrun : runs Ge07.init (cs.take (j + 1)) = (Ge07.step (runs Ge07.init (cs.take j)) c).1 := by
        rw [take_next hc]
        unfold runs
        rw [List.foldl_append]
        rfl
      generalize (Ge07.step (runs Ge07.init (cs.take j)) c).2 = ans at ea htold hlen
      generalize PyFlat.told (play Ge07.init (cs.take j)) = old at e5 htold hlen
      -- told.append(len(answer))
      refine ⟨_, rfl, .inl ⟨rfl, _, .inl (.inl e5)⟩, _, rfl, pa, _, rfl, .inl (.inl (.inl ea)), pt, _, _, rfl, rfl, e5, (by rw [List.length_map]; omega), ?_⟩
      have ea6 : upd H5 pt (.lst (old.map V.int ++ [V.int ((ans.map V.int).length : Int)])) pa = some (.lst (ans.map V.int)) := by
        rw [upd_ne npap]
        exact ea
      -- told.extend(answer)
      refine ⟨_, rfl, .inl ⟨rfl, _, .inl (.inl upd_same)⟩, _, rfl, pt, pa, _, _, rfl, rfl, upd_same, ea6, (by rw [List.length_append, List.length_map, List.length_map]; show old.length + 1 + ans.length ≤ sizeLine; omega), ?_⟩
      rw [upd_upd]
      refine ⟨cs.length - (j + 1), by omega, j + 1, ft5, _, _, rfl, rfl, hjl, ?_, ?_, nra5, npt5, hrp, ?_, ?_⟩
      · rw [hrun]
        exact LO.frame L5 fun b hb => upd_ne fun z => npt5 (z ▸ hb)
      · have e6 : ((cs.take (j + 1)).flatMap enc).length = ((cs.take j).flatMap enc).length + 1 + (enc c).tail.length := by
          rw [take_next hc, List.flatMap_append, List.length_append]
          have e7 : ([c].flatMap enc).length = (enc c).tail.length + 1 := by
            show (enc c ++ []).length = _
            rw [List.append_nil, ek]
            rfl
          rw [e7]
          omega
        rw [e6]
        obtain ⟨d5, p5, h5, S5, r5⟩ := R5
        refine ⟨d5, p5, ?_, S5.to fun b ob u z => ?_, r5⟩
        · rw [upd_ne hrp]
          exact h5
        · rw [upd_ne (ne_of z e5 (by intro z; cases z))]
          exact z
      · rw [upd_same, htold, List.map_append, List.map_cons, List.length_map, List.append_assoc]
        rfl
      · exact tabs_upd t5 e5 (fun _ z => by cases z) (fun _ z => by cases z)
    · have ej : j = cs.length := by omega
      subst ej
      rw [List.take_length] at R3 e3 ⊢
      refine if_f (decide_eq_false (Nat.lt_irrefl _)) ⟨_, rfl, q H3 pt e3⟩
end
end Gf
set_option Elab.async false
set_option linter.all false
set_option maxRecDepth 100000
set_option maxHeartbeats 2000000
namespace Gf
open PySem PySem.Spec PyProof.Rows L2 LamX NdefX
/-! ### Crowd: figures by their numbers -/
abbrev sCrowd : Stmt := topS 8
abbrev sTurns : Stmt := topS 9
abbrev sNearer : Stmt := topS 10
def kR (ps gv : V) : List (Str × V) := [("spots", ps), ("given", gv)]
theorem lk_none {m : Str} : ∀ {fs : List (Str × V)} (ns : List Str), fs.map (·.1) = ns → (ns.all fun k => !(m == k)) = true → fs.lookup m = none
  | [], _, _, _ => rfl
  | (k, v) :: fs, _, rfl, h => by
    rw [List.map_cons, List.all_cons, Bool.and_eq_true] at h
    have e : (m == k) = false := by
      cases c : (m == k) with
      | false => rfl
      | true => rw [show ((k, v).1) = k from rfl, c] at h; cases h.1
    rw [lk_past e]
    exact lk_none _ rfl h.2
theorem kR_spots {ps gv : V} : (kR ps gv).lookup ("spots" : Str) = some ps := lk_here
theorem kR_given {ps gv : V} : (kR ps gv).lookup ("given" : Str) = some gv := (lk_past (by decide +kernel)).trans lk_here
theorem kR_no {ps gv : V} {m : Str} (h : ((["spots", "given"] : List Str).all fun k => !(m == k)) = true) : (kR ps gv).lookup m = none := lk_none _ rfl h
theorem kR_putS {ps gv v : V} : putF "spots" v (kR ps gv) = kR v gv := put_here
theorem kR_putG {ps gv v : V} : putF "given" v (kR ps gv) = kR ps v := (put_past (by decide +kernel)).trans (congrArg _ put_here)
theorem kR_len (ps gv : V) : (kR ps gv).length < 1000 := by show 2 < 1000; decide
structure KTxt (K : PySem.W.Frag) (mg : Str → Option Value) (CC : Addr) : Prop where
  cl : Cls K CC
  nS : NoAttr K CC "spots"
  nG : NoAttr K CC "given"
  gC : mg "Crowd" = some (.ref CC)
def figK (l : List OneI) : List (Key × V) := l.map fun a => (Sum.inl (a.1 : Int), V.int ((a.2 : Nat) : Int))
theorem figK_len (l : List OneI) : (figK l).length = l.length := List.length_map _
theorem inl_nat {i j : Nat} : (Sum.inl (i : Int) : Key) = Sum.inl (j : Int) ↔ i = j := ⟨inl_inj, fun h => by rw [h]⟩
theorem figK_val : ∀ {l : List OneI}, Dist l → ∀ {a : OneI}, a ∈ l → valV (figK l) (Sum.inl (a.1 : Int)) = some (.int ((a.2 : Nat) : Int))
  | [], _, _, h => by cases h
  | b :: l, hd, a, h => by
    have hd' := List.pairwise_cons.mp hd
    rcases List.mem_cons.mp h with e | h
    · rw [e]
      exact valV_pos rfl
    · refine (valV_neg (fun z => ?_)).trans (figK_val hd'.2 h)
      exact hd'.1 a h (inl_inj z)
theorem figK_any (l : List OneI) (n : Nat) : ((figK l).any fun kv => decide (kv.1 = Sum.inl (n : Int))) = (l.map (·.1)).contains n := by
  induction l with
  | nil => rfl
  | cons a l ih =>
    unfold figK at ih ⊢
    rw [List.map_cons, List.any_cons, ih, List.map_cons, List.contains_cons]
    congr 1
    show decide ((Sum.inl (a.1 : Int) : Key) = Sum.inl (n : Int)) = (n == a.1)
    by_cases e : a.1 = n
    · rw [e, beq_self_eq_true]
      exact decide_eq_true rfl
    · rw [beq_eq_false_iff_ne.mpr (fun z => e z.symm)]
      exact decide_eq_false fun z => e (inl_inj z)
theorem figK_put {l : List OneI} {n q : Nat} (h : n ∈ l.map (·.1)) : putK (figK l) (Sum.inl (n : Int)) (.int ((q : Nat) : Int)) = figK (putI l n q) := by
  unfold putK
  rw [figK_any, if_pos (List.contains_iff_mem.mpr h)]
  unfold figK putI
  rw [List.map_map, List.map_map]
  apply List.map_congr_left
  intro b _
  show (if (Sum.inl (b.1 : Int) : Key) = Sum.inl (n : Int) then ((Sum.inl (b.1 : Int) : Key), V.int ((q : Nat) : Int)) else (Sum.inl (b.1 : Int), V.int ((b.2 : Nat) : Int))) = (Sum.inl (((if b.1 = n then (b.1, q) else b).1 : Nat) : Int), V.int (((if b.1 = n then (b.1, q) else b).2 : Nat) : Int))
  by_cases e : b.1 = n
  · rw [if_pos (inl_nat.mpr e), if_pos e]
  · rw [if_neg (fun z => e (inl_inj z)), if_neg e]
theorem figK_new {l : List OneI} {n q : Nat} (h : n ∉ l.map (·.1)) : putK (figK l) (Sum.inl (n : Int)) (.int ((q : Nat) : Int)) = figK (l ++ [(n, q)]) := by
  unfold putK
  rw [figK_any, if_neg (fun z => h (List.contains_iff_mem.mp z))]
  unfold figK
  rw [List.map_append]
  rfl
theorem figK_drop (l : List OneI) (n : Nat) : dropK (figK l) (Sum.inl (n : Int)) = figK (l.filter fun a => a.1 != n) := by
  unfold dropK figK
  rw [List.filter_map]
  congr 1
  apply List.filter_congr
  intro a _
  show decide ((Sum.inl (a.1 : Int) : Key) ≠ Sum.inl (n : Int)) = (a.1 != n)
  by_cases e : a.1 = n
  · rw [e, bne_self_eq_false]
    exact decide_eq_false fun z => z rfl
  · rw [bne_iff_ne.mpr e]
    exact decide_eq_true fun z => e (inl_inj z)
theorem figK_vals (l : List OneI) : (figK l).map (·.2) = nI (l.map (·.2)) := by
  unfold figK nI
  rw [List.map_map, List.map_map]
  rfl
theorem figK_keys (l : List OneI) (i : Nat) : (figK l)[i]?.map (fun p => kV p.1) = (l[i]?).map fun a => V.int ((a.1 : Nat) : Int) := by
  unfold figK
  rw [List.getElem?_map, Option.map_map]
  rfl
/-- a crowd of the figures l, so many were given -/
def CrowdAt (CC : Addr) (H : Hp) (pk ps : Addr) (l : List OneI) (gv : Nat) : Prop := (∃ dk, H pk = some (.ins CC dk (kR (.ref ps) (.int (gv : Nat))))) ∧ H ps = some (.dK (figK l))
theorem CrowdAt.to {CC : Addr} {H H' : Hp} {pk ps : Addr} {l : List OneI} {gv : Nat} (h : CrowdAt CC H pk ps l gv) (h1 : H' pk = H pk) (h2 : H' ps = H ps) : CrowdAt CC H' pk ps l gv := by
  obtain ⟨⟨dk, a⟩, b⟩ := h
  exact ⟨⟨dk, h1.trans a⟩, h2.trans b⟩
theorem CrowdAt.ne {CC : Addr} {H : Hp} {pk ps : Addr} {l : List OneI} {gv : Nat} (h : CrowdAt CC H pk ps l gv) : pk ≠ ps := by
  obtain ⟨⟨dk, a⟩, b⟩ := h
  exact ne_of a b (by intro z; cases z)
theorem CrowdAt.same {CC : Addr} {H H' : Hp} {pk ps : Addr} {l : List OneI} {gv : Nat} (h : CrowdAt CC H pk ps l gv) (s : Same H H') : CrowdAt CC H' pk ps l gv := by
  obtain ⟨⟨dk, a⟩, b⟩ := h
  exact ⟨⟨dk, s _ _ a⟩, s _ _ b⟩
theorem CrowdAt.ext {CC : Addr} {H H' : Hp} {pk ps : Addr} {l : List OneI} {gv : Nat} (h : CrowdAt CC H pk ps l gv) (s : ExtN H H') : CrowdAt CC H' pk ps l gv := by
  obtain ⟨⟨dk, a⟩, b⟩ := h
  exact ⟨⟨dk, s _ _ a fun _ z => by cases z⟩, s _ _ b fun _ z => by cases z⟩
section
variable {P : Program} {w : World} {K : PySem.W.Frag} {mg : Str → Option Value} {base : Heap} {CC : Addr}
/-! ### __init__ -/
abbrev sKInit : Stmt := inClass sCrowd 0
def spKInit (CC : Addr) : Sp := fun vs H Q _ => ∃ (pk dk : Addr), vs = [.ref pk] ∧ H pk = some (.ins CC dk []) ∧
  ∀ H' ps, CrowdAt CC H' pk ps [] 0 → H ps = none → But pk H H' → Q .non H'
theorem scKInit : FnScope ["self"] ["self"] (defScope sKInit) := ⟨rfl, rfl, rfl, by decide +kernel, rfl, by decide +kernel, by decide +kernel⟩
theorem ok_kInit {f : Addr} {fd : FuncData} {k : Nat} (F : Fun K "__init__" "Crowd.__init__" sKInit f fd) (TK : KTxt K mg CC) : FnOk P w K mg base CX0 (k + 1) f fd ["self"] (spKInit CC) := by
  refine F.ok scKInit (fun vs H Q E h => ?_) (fun cdv A outer s H vs Q E hr h => ⟨_, pss_cons (ps_fld (pv 0) pe_dnewK rfl) (pss_one (ps_fld (pv 0) pe_int rfl)), ?_⟩)
  · obtain ⟨pk, dk, rfl, _⟩ := h
    rfl
  · obtain ⟨pk, dk, rfl, h1, q⟩ := h
    intro ps nps
    have nk : pk ≠ ps := ne_of_none h1 nps
    refine ⟨_, rfl, pk, CC, dk, _, rfl, (by rw [upd_ne nk]; exact h1), TK.cl, TK.nS, (by decide), ?_⟩
    refine ⟨_, rfl, pk, CC, dk, _, rfl, upd_same, TK.cl, TK.nG, (by show 1 < 1000; decide), ?_⟩
    rw [upd_upd]
    have e : putF "given" (.int 0) (putF "spots" (.ref ps) []) = kR (.ref ps) (.int ((0 : Nat) : Int)) := (put_past (by decide +kernel)).trans rfl
    refine q _ ps ⟨⟨dk, ?_⟩, ?_⟩ nps (fun b o eb n => ?_)
    · rw [upd_same]
      exact congrArg (fun z => some (HO.ins CC dk z)) e
    · rw [upd_ne (fun z => nk z.symm), upd_same]
      rfl
    · rw [upd_ne n, upd_ne (ne_of_none eb nps)]
      exact eb
/-! ### put_on -/
abbrev sPutOn : Stmt := inClass sCrowd 1
def spPutOn (CC : Addr) : Sp := fun vs H Q _ => ∃ (pk ps : Addr) (l : List OneI) (gv s : Nat), vs = [.ref pk, .int s] ∧ CrowdAt CC H pk ps l gv ∧ (∀ a ∈ l, a.1 < gv) ∧ l.length ≤ 12 ∧
  ∀ H', CrowdAt CC H' pk ps (l ++ [(gv, s)]) (gv + 1) → (∀ b, b ≠ pk → b ≠ ps → H' b = H b) → Q (.int (gv : Nat)) H'
theorem scPutOn : FnScope ["self", "spot", "number"] ["self", "spot"] (defScope sPutOn) := ⟨rfl, rfl, rfl, by decide +kernel, rfl, by decide +kernel, by decide +kernel⟩
theorem ok_putOn {f : Addr} {fd : FuncData} {k : Nat} (F : Fun K "put_on" "Crowd.put_on" sPutOn f fd) (TK : KTxt K mg CC) : FnOk P w K mg base CX0 (k + 1) f fd ["self", "spot"] (spPutOn CC) := by
  have nd := scPutOn.nd
  refine F.ok scPutOn (fun vs H Q E h => ?_) (fun cdv A outer s H vs Q E hr h => ⟨_, pss_cons (ps_set (i := 2) nd rfl (.inl rfl) (pe_fld (pv 0) rfl)) (pss_cons (ps_dput (hu_of hr) (pe_fld (pv 0) rfl) (pv 2) (pv 1) rfl)
    (pss_cons (ps_fldaug (pv 0) pe_int in_add) (pss_one (ps_ret (pv 2))))), ?_⟩)
  · obtain ⟨pk, ps, l, gv, s, rfl, _⟩ := h
    rfl
  · obtain ⟨pk, ps, l, gv, s, rfl, ⟨⟨dk, h1⟩, h2⟩, hl, h12, q⟩ := h
    have nk : pk ≠ ps := ne_of h1 h2 (by intro z; cases z)
    refine ⟨_, rfl, pk, CC, dk, _, _, rfl, h1, TK.cl, TK.nG, kR_given, ?_⟩
    refine ⟨_, rfl, _, rfl, pk, CC, dk, _, _, rfl, h1, TK.cl, TK.nS, kR_spots, _, rfl, ps, _, rfl, DPut.k (k := Sum.inl (gv : Int)) h2 (small1000 (by rw [figK_len]; omega)), ?_⟩
    have h1' : upd H ps (.dK (putK (figK l) (Sum.inl (gv : Int)) (.int ((s : Nat) : Int)))) pk = some (.ins CC dk (kR (.ref ps) (.int (gv : Nat)))) := by rw [upd_ne nk]; exact h1
    refine ⟨_, rfl, pk, CC, dk, _, _, rfl, h1', TK.cl, TK.nG, kR_given, _, _, rfl, rfl, dk, _, h1', kR_len _ _, ?_⟩
    rw [kR_putG]
    refine ⟨_, rfl, q _ ⟨⟨dk, upd_same⟩, ?_⟩ fun b b1 b2 => ?_⟩
    · rw [upd_ne (fun z => nk z.symm), upd_same, figK_new]
      intro z
      obtain ⟨a, ha, e⟩ := List.mem_map.mp z
      have := hl a ha
      omega
    · rw [upd_ne b1, upd_ne b2]
/-! ### leave_all -/
abbrev sLeaveAll : Stmt := inClass sCrowd 2
def spLeaveAll (CC : Addr) : Sp := fun vs H Q _ => ∃ (pk ps : Addr) (l : List OneI) (gv : Nat), vs = [.ref pk] ∧ CrowdAt CC H pk ps l gv ∧
  ∀ H' ps', CrowdAt CC H' pk ps' [] gv → H ps' = none → (∀ b, b ≠ pk → b ≠ ps' → H' b = H b) → Q .non H'
theorem scLeaveAll : FnScope ["self"] ["self"] (defScope sLeaveAll) := ⟨rfl, rfl, rfl, by decide +kernel, rfl, by decide +kernel, by decide +kernel⟩
theorem ok_leaveAll {f : Addr} {fd : FuncData} {k : Nat} (F : Fun K "leave_all" "Crowd.leave_all" sLeaveAll f fd) (TK : KTxt K mg CC) : FnOk P w K mg base CX0 (k + 1) f fd ["self"] (spLeaveAll CC) := by
  refine F.ok scLeaveAll (fun vs H Q E h => ?_) (fun cdv A outer s H vs Q E hr h => ⟨_, pss_one (ps_fld (pv 0) pe_dnewK rfl), ?_⟩)
  · obtain ⟨pk, ps, l, gv, rfl, _⟩ := h
    rfl
  · obtain ⟨pk, ps, l, gv, rfl, ⟨⟨dk, h1⟩, h2⟩, q⟩ := h
    intro p np
    have nk : pk ≠ p := ne_of_none h1 np
    refine ⟨_, rfl, pk, CC, dk, _, rfl, (by rw [upd_ne nk]; exact h1), TK.cl, TK.nS, kR_len _ _, ?_⟩
    rw [kR_putS]
    refine q _ p ⟨⟨dk, upd_same⟩, ?_⟩ np fun b b1 b2 => ?_
    · rw [upd_ne (fun z => nk z.symm), upd_same]
      rfl
    · rw [upd_ne b1, upd_ne b2]
/-! ### how_many -/
abbrev sHowMany : Stmt := inClass sCrowd 3
def spHowMany (CC : Addr) : Sp := fun vs H Q _ => ∃ (pk ps : Addr) (l : List OneI) (gv : Nat), vs = [.ref pk] ∧ CrowdAt CC H pk ps l gv ∧ Q (.int (l.length : Nat)) H
theorem scHowMany : FnScope ["self"] ["self"] (defScope sHowMany) := ⟨rfl, rfl, rfl, by decide +kernel, rfl, by decide +kernel, by decide +kernel⟩
theorem ok_howMany {f : Addr} {fd : FuncData} {k : Nat} (F : Fun K "how_many" "Crowd.how_many" sHowMany f fd) (TK : KTxt K mg CC) (mL : mg "len" = none) : FnOk P w K mg base CX0 (k + 1) f fd ["self"] (spHowMany CC) := by
  refine F.ok scHowMany (fun vs H Q E h => ?_) (fun cdv A outer s H vs Q E hr h => ⟨_, pss_one (ps_ret (pe_callB call_lenD (by rfl) mL PySem.boot_len (pa_cons (pe_fld (pv 0) rfl) pa_nil))), ?_⟩)
  · obtain ⟨pk, ps, l, gv, rfl, _⟩ := h
    rfl
  · obtain ⟨pk, ps, l, gv, rfl, ⟨⟨dk, h1⟩, h2⟩, q⟩ := h
    refine ⟨_, rfl, pk, CC, dk, _, _, rfl, h1, TK.cl, TK.nS, kR_spots, ps, _, rfl, h2, ?_⟩
    show Q (.int ((figK l).length : Nat)) H
    rw [figK_len]
    exact q
/-! ### stands_on -/
abbrev sStandsOn : Stmt := inClass sCrowd 4
def stoodI (l : List OneI) (s : Nat) : Bool := l.any fun b => b.2 == s
theorem stood_in (l : List OneI) (s : Nat) : inV (.int (s : Int)) ((figK l).map (·.2)) = stoodI l s := by
  unfold stoodI figK inV
  rw [List.map_map, List.any_map]
  congr 1
  funext a
  show eqV (.int ((a.2 : Nat) : Int)) (.int (s : Int)) = (a.2 == s)
  by_cases e : a.2 = s
  · rw [e, beq_self_eq_true]
    exact beq_self_eq_true _
  · rw [beq_eq_false_iff_ne.mpr e]
    exact beq_eq_false_iff_ne.mpr fun z => e (by omega)
def spStandsOn (CC : Addr) : Sp := fun vs H Q _ => ∃ (pk ps : Addr) (l : List OneI) (gv s : Nat), vs = [.ref pk, .int s] ∧ CrowdAt CC H pk ps l gv ∧ ∀ H', Same H H' → Q (.bl (stoodI l s)) H'
theorem scStandsOn : FnScope ["self", "spot"] ["self", "spot"] (defScope sStandsOn) := ⟨rfl, rfl, rfl, by decide +kernel, rfl, by decide +kernel, by decide +kernel⟩
theorem ok_standsOn {f : Addr} {fd : FuncData} {k : Nat} (F : Fun K "stands_on" "Crowd.stands_on" sStandsOn f fd) (TK : KTxt K mg CC) (mL : mg "list" = none) : FnOk P w K mg base CX0 (k + 1) f fd ["self", "spot"] (spStandsOn CC) := by
  refine F.ok scStandsOn (fun vs H Q E h => ?_) (fun cdv A outer s H vs Q E hr h => ⟨_, pss_one (ps_ret (pe_cmpR op_in_seq (pv 1) (pe_listVals rfl rfl mL (pe_fld (pv 0) rfl)) (by rfl))), ?_⟩)
  · obtain ⟨pk, ps, l, gv, s, rfl, _⟩ := h
    rfl
  · obtain ⟨pk, ps, l, gv, s, rfl, ⟨⟨dk, h1⟩, h2⟩, q⟩ := h
    refine ⟨_, rfl, _, rfl, pk, CC, dk, _, _, rfl, h1, TK.cl, TK.nS, kR_spots, ps, _, rfl, h2, fun p np => ⟨p, _, rfl, .inl (SqL.of upd_same), rfl, ?_, ?_⟩⟩
    · unfold figK
      rw [List.map_map, List.all_map]
      exact List.all_eq_true.mpr fun x _ => rfl
    · show Q (.bl (inV (.int (s : Int)) ((figK l).map (·.2)))) _
      rw [stood_in]
      exact q _ (same_upd np)
end
end Gf
set_option Elab.async false
set_option linter.all false
set_option maxRecDepth 100000
set_option maxHeartbeats 2000000
namespace Gf
open PySem PySem.Spec PyProof.Rows L2 LamX NdefX
def iN (l : List Nat) : List Int := l.map fun (n : Nat) => (n : Int)
theorem nI_iN (l : List Nat) : nI l = (iN l).map V.int := by
  unfold nI iN
  rw [List.map_map]
  rfl
theorem iN_of {l : List Nat} {j : Nat} {m : Int} (h : (iN l)[j]? = some m) : ∃ q : Nat, l[j]? = some q ∧ m = (q : Int) := by
  unfold iN at h
  rw [List.getElem?_map] at h
  obtain ⟨q, hq, e⟩ := Option.map_eq_some_iff.mp h
  exact ⟨q, hq, e.symm⟩
theorem iN_at {l : List Nat} {j q : Nat} (h : l[j]? = some q) : (iN l)[j]? = some (q : Int) := by
  unfold iN
  rw [List.getElem?_map, h]
  rfl
theorem filt_yes {α : Type} {l : List α} {p : α → Bool} {i : Nat} {j : α} (hj : l[i]? = some j) (hp : p j = true) : (l.take (i + 1)).filter p = (l.take i).filter p ++ [j] := by
  rw [take_next hj, List.filter_append, List.filter_cons_of_pos hp]
  rfl
theorem filt_no {α : Type} {l : List α} {p : α → Bool} {i : Nat} {j : α} (hj : l[i]? = some j) (hp : p j = false) : (l.take (i + 1)).filter p = (l.take i).filter p := by
  rw [take_next hj, List.filter_append, List.filter_cons_of_neg (by rw [hp]; decide), List.filter_nil, List.append_nil]
theorem filt_len {α : Type} (l : List α) (p : α → Bool) (i : Nat) : ((l.take i).filter p).length ≤ l.length := Nat.le_trans (List.length_filter_le _ _) (by rw [List.length_take]; omega)
theorem ixL {X : Cx} {K : PySem.W.Frag} (h : X.K = K := by rfl) : IxR X (rIxL K) := by
  subst h
  exact ix_list
theorem sq_other {K : PySem.W.Frag} {H : Hp} {a b : Addr} {xs : List V} {o o' : HO} (h : SqL K H a xs) (hb : H b = some o) (n1 : ∀ ys, o ≠ .lst ys) (n2 : ∀ ob u, o ≠ .frz ob u) : SqL K (upd H b o') a xs := by
  rcases h with (h | ⟨ob, h⟩) | h
  · exact .inl (.inl (by rw [upd_ne (fun z => by rw [z, hb] at h; exact n1 _ (Option.some.inj h))]; exact h))
  · exact .inl (.inr ⟨ob, by rw [upd_ne (fun z => by rw [z, hb] at h; exact n2 _ _ (Option.some.inj h))]; exact h⟩)
  · exact .inr h
theorem fresh_ext {H H' : Hp} {p : Addr} (x : ExtN H H') (np : H' p = none) : Fresh H p := fun o e => by
  cases o with
  | tbl ps => exact ⟨ps, rfl⟩
  | _ =>
    rw [x p _ e (fun _ z => by cases z)] at np
    cases np
/-- a map's field -/
structure FAt (K : PySem.W.Frag) (H : Hp) (m : Ge07.Map) (pf : Addr) : Prop where
  fl : SqL K H pf (fV (Ge07.field m))
  w0 : 0 < m.w
  w12 : m.w ≤ 12
section
variable {P : Program} {w : World} {K : PySem.W.Frag} {mg : Str → Option Value} {base : Heap} {CC : Addr} {T : List (Addr × Str)}
theorem FAt.to {H H' : Hp} {m : Ge07.Map} {pf : Addr} (h : FAt K H m pf) (s : Same H H') : FAt K H' m pf := ⟨s.seq h.fl, h.w0, h.w12⟩
theorem FAt.ext {H H' : Hp} {m : Ge07.Map} {pf : Addr} (h : FAt K H m pf) (s : ExtN H H') : FAt K H' m pf := ⟨extN_seq s h.fl, h.w0, h.w12⟩
theorem FAt.f {H : Hp} {m : Ge07.Map} {pf : Addr} (h : FAt K H m pf) {i : Nat} (hi : i < m.w * m.h) : atI (fV (Ge07.field m)) ((i : Nat) : Int) = some (oV (fldOf m i)) := atI_nat (fV_get (by rw [field_len h.w0]; exact hi))
/-! ### nearer_spots -/
def spNearer (K : PySem.W.Frag) : Sp := fun vs H Q _ => ∃ (m : Ge07.Map) (pf : Addr) (s d : Nat), vs = [.int m.w, .int m.h, .ref pf, .int s] ∧ FAt K H m pf ∧ s < m.w * m.h ∧ fldOf m s = some d ∧
  ∀ H' p, Same H H' → H p = none → H' p = some (.lst (nI ((bes m.w m.h s).filter fun q => nearI (fldOf m) q s))) → Q (.ref p) H'
abbrev nNearer : List Str := ["wide", "high", "field", "spot", "other"]
theorem scNearer : FnScope nNearer ["wide", "high", "field", "spot"] (defScope sNearer) := ⟨rfl, rfl, rfl, by decide +kernel, rfl, by decide +kernel, by decide +kernel⟩
theorem ok_nearer {f fB : Addr} {fd fdB : FuncData} {k : Nat} (F : Fun K "nearer_spots" "nearer_spots" sNearer f fd)
    (GB : FnOk P w K mg base CX0 1 fB fdB ["wide", "high", "spot"] spBeside) (bB : Binds K fdB ["wide", "high", "spot"] []) (mB : mg "beside" = some (.ref fB)) (kB : PySem.W.keepIn K (.ref fB) = true) :
    FnOk P w K mg base CX0 (k + 2) f fd ["wide", "high", "field", "spot"] (spNearer K) := by
  have nd := scNearer.nd
  refine F.ok scNearer (fun vs H Q E h => ?_) (fun cdv A outer s H vs Q E hr h => ?_)
  · obtain ⟨m, pf, s, d, rfl, _⟩ := h
    rfl
  · have hr1 : Room 1 _ := hr.mono (show 1 ≤ k + 1 by omega)
    refine ⟨_, pss_one (ps_ret (pe_lc (own := [("other", 4)]) (g := gName 4) rfl nd (pi_list (pe_call GB hr1 rfl mB kB bB .nil pass0 (pa_cons (pv 0) (pa_cons (pv 1) (pa_cons (pv 3) pa_nil))))) (blkOk_by (N := nNearer) (sc := defScope sNearer) (by decide +kernel)) (fun _ _ _ _ _ => pg_name (i := 4) nd rfl (Or.inl rfl))
      (fun _ _ _ _ _ => pts_one (PW.pt (pw_and (pt_cmpR op_notN (pe_ix (ixL (K := K)) (pv 2) (pv 4) (fun _ _ => rfl)) pe_non (nomark _)) (pw_and1 (pt_cmpR op_lt (pe_ix (ixL (K := K)) (pv 2) (pv 4) (fun _ _ => rfl)) (pe_ix (ixL (K := K)) (pv 2) (pv 3) (fun _ _ => rfl)) (nomark _)))))) (fun _ _ _ _ _ => pv 4))), ?_⟩
    obtain ⟨m, pf, s, d, rfl, L, hs, hd, q⟩ := h
    refine ⟨_, rfl, _, rfl, _, rfl, m.w, m.h, s, rfl, hs, L.w12, fun H1 pb s1 npb e1 => ?_⟩
    refine ⟨pb, rfl, ⟨_, SqL.of e1⟩, fun D nD => lc_list (K := K) (a := pb) (xs := nI (bes m.w m.h s)) (fun i H' => Same H1 H' ∧ H' D = some (.lst (nI (((bes m.w m.h s).take i).filter fun q => nearI (fldOf m) q s)))) ⟨same_upd nD, upd_same⟩ (fun i H' _ z => z.1.seq (SqL.of e1)) ?_ ?_⟩
    · rintro i x H' hi ⟨s2, e2⟩
      obtain ⟨j, hj, rfl⟩ := nI_mem hi
      have hjl := bes_lt hs (List.mem_of_getElem? hj)
      have L2 := L.to (s1.trans s2)
      have sz : (nI (((bes m.w m.h s).take i).filter fun q => nearI (fldOf m) q s)).length < sizeLine := by
        rw [nI_len]
        refine small1000 (Nat.le_trans (filt_len _ _ _) (Nat.le_trans (bes_len _ _ _) (by decide)))
      refine ⟨rfl, _, rfl, _, rfl, pf, _, _, _, rfl, rfl, L2.fl, L2.f hjl, rfl, _, rfl, ?_⟩
      cases c : fldOf m j with
      | none =>
        have hn : nearI (fldOf m) j s = false := by
          unfold nearI
          rw [c] <;> rfl
        refine if_f rfl ⟨s2, ?_⟩
        rw [filt_no hj hn]
        exact e2
      | some e =>
        refine if_t rfl ⟨_, rfl, _, rfl, pf, _, _, _, rfl, rfl, L2.fl, L2.f hjl, _, rfl, _, rfl, pf, _, _, _, rfl, rfl, L2.fl, L2.f hs, ?_⟩
        rw [c, hd]
        have hn : nearI (fldOf m) j s = decide (e < d) := by
          unfold nearI
          rw [c, hd] <;> rfl
        refine ⟨_, _, rfl, rfl, _, rfl, ?_⟩
        by_cases z : e < d
        · rw [decide_eq_true z] at hn
          refine if_t (decide_eq_true (by omega)) ⟨_, rfl, _, e2, sz, fun b o q => ?_, ?_⟩
          · rw [upd_ne (ne_of_none q nD)]
            exact s2 b o q
          · rw [upd_same, filt_yes hj hn, nI_app]
            rfl
        · rw [decide_eq_false z] at hn
          refine if_f (decide_eq_false (by omega)) ⟨s2, ?_⟩
          rw [filt_no hj hn]
          exact e2
    · rintro H2 ⟨s2, e2⟩
      rw [nI_len, List.take_length] at e2
      exact q H2 D (s1.trans s2) (s1.free nD) e2
/-! ### goes_to -/
abbrev sGoesTo : Stmt := inClass sCrowd 6
abbrev qGoesTo : Str := ("Crowd.goes_to.<locals>.<lambda>" : Str)
def spGoesTo (K : PySem.W.Frag) (CC : Addr) (T : List (Addr × Str)) : Sp := fun vs H Q _ => ∃ (m : Ge07.Map) (pk ps pf : Addr) (l : List OneI) (gv s d : Nat), vs = [.ref pk, .int m.w, .int m.h, .ref pf, .int s] ∧ CrowdAt CC H pk ps l gv ∧ FAt K H m pf ∧ s < m.w * m.h ∧ fldOf m s = some d ∧ Tabs T H ∧
  ∀ H', ExtN H H' → Tabs T H' → Q (.int (goesI m (fldOf m) l s : Nat)) H'
abbrev nGoesTo : List Str := ["self", "wide", "high", "field", "spot", "nearer", "free", "other"]
theorem scGoesTo : FnScope nGoesTo ["self", "wide", "high", "field", "spot"] (defScope sGoesTo) := ⟨rfl, rfl, rfl, by decide +kernel, rfl, by decide +kernel, by decide +kernel⟩
theorem ok_goesTo {f c Pt fN fS : Addr} {fdN fdS : FuncData} {k : Nat} {oc kV doc pm ct : Value} {od an : Option Addr} {osl : Array (Option Value)}
    (l : K.lookup f = some ⟨oc, od, .func (PySem.W.fnOf "goes_to" "Crowd.goes_to" (defArgs sGoesTo) (defBody sGoesTo) (defScope sGoesTo) .none kV doc pm an (.ref c) ct), osl⟩) (hcd : PySem.W.codeIn K (.ref c) "Crowd.goes_to" = true)
    (TK : KTxt K mg CC) (mm : mg "min" = none) (mL : mg "len" = none) (TB : TabB base mg c Pt) (hT : (Pt, qGoesTo) ∈ T) (hu : ∀ p ∈ T, p.1 = Pt → p.2 = qGoesTo)
    (GN : FnOk P w K mg base CX0 2 fN fdN ["wide", "high", "field", "spot"] (spNearer K)) (bN : Binds K fdN ["wide", "high", "field", "spot"] []) (mN : mg "nearer_spots" = some (.ref fN)) (kN : PySem.W.keepIn K (.ref fN) = true)
    (GS : FnOk P w K mg base CX0 1 fS fdS ["self", "spot"] (spStandsOn CC)) (bS : Binds K fdS ["self", "spot"] []) (mS : Meth K CC "stands_on" fS) :
    FnOk P w K mg base CX0 (k + 3) f (PySem.W.fnOf "goes_to" "Crowd.goes_to" (defArgs sGoesTo) (defBody sGoesTo) (defScope sGoesTo) .none kV doc pm an (.ref c) ct) ["self", "wide", "high", "field", "spot"] (spGoesTo K CC T) := by
  have nd := scGoesTo.nd
  refine fn_of l hcd scGoesTo (fun vs H Q E h => ?_) (fun A outer s H vs Q E hr h => ?_)
  · obtain ⟨m, pk, ps, pf, l, gv, s, d, rfl, _⟩ := h
    rfl
  · have hr1 : Room 1 _ := hr.mono (show 1 ≤ k + 2 by omega)
    have hr2 : Room 2 _ := hr.mono (show 2 ≤ k + 2 by omega)
    refine ⟨_, PSs.nox (pss_cons (ps_set (i := 5) nd rfl (.inl rfl) (pe_call GN hr2 rfl mN kN bN .nil pass0 (pa_cons (pv 1) (pa_cons (pv 2) (pa_cons (pv 3) (pa_cons (pv 4) pa_nil))))))
      (pss_cons (ps_setLc (i := 6) (own := [("other", 7)]) (g := gName 7) rfl nd rfl rfl (sw_true rfl rfl rfl (by decide +kernel)) (pi_list (pv 5)) (blkOk_by (N := nGoesTo) (sc := defScope sGoesTo) (by decide +kernel)) (fun _ _ _ _ _ => pg_name (i := 7) nd rfl (Or.inl rfl))
        (fun _ _ _ _ _ => pts_one (pt_not (pt_val (pe_meth (pv 0) TK.cl mS GS hr1 bS .nil pass0 (pa_cons (pv 7) pa_nil))))) (fun _ _ _ _ _ => pv 7))
      (pss_cons (ps_if (pt_cmpR op_eq (pe_callB call_len_seq (by rfl) mL PySem.boot_len (pa_cons (pv 6) pa_nil)) pe_int (nomark _)) (pss_one (ps_ret (pv 4))) pss_nil)
      (pss_one (ps_ret (pe_lock (pe_minKeyL (T := T) (c := c) (P := Pt) (k := 0) (x := "other") (fr := ["field"]) (N := ["other", "field"]) (js := [3]) rfl rfl mm TB rfl hT hu hr2 rfl (nscope_by (by decide +kernel)) ?_ ?_ rfl
        (fun _ _ _ _ _ _ => rfl) (pa_cons (pv 6) pa_nil) (fun A' outer' s' H' f' c' hr' => pe_ix (ixL (K := K)) (pv 1) (pv 0) (fun _ _ => rfl))))))))), ?_⟩
    · exact ndef_free (sc := defScope sGoesTo) (fr := ["field"]) (by decide +kernel)
    · exact ndef_fr (sc := defScope sGoesTo) (by decide +kernel)
    · obtain ⟨m, pk, ps, pf, l, gv, s, d, rfl, CA, L, hs, hd, tb, q⟩ := h
      refine ⟨_, rfl, _, rfl, _, rfl, _, rfl, m, pf, s, d, rfl, L, hs, hd, fun H1 pn s1 npn e1 => ?_⟩
      refine ⟨_, rfl, pn, rfl, ⟨_, SqL.of e1⟩, fun D nD => lc_list (K := K) (a := pn) (xs := nI ((bes m.w m.h s).filter fun q => nearI (fldOf m) q s)) (fun i H' => Same H1 H' ∧ H' D = some (.lst (nI ((((bes m.w m.h s).filter fun q => nearI (fldOf m) q s).take i).filter fun q => !(stoodI l q))))) ⟨same_upd nD, upd_same⟩ (fun i H' _ z => z.1.seq (SqL.of e1)) ?_ ?_⟩
      · rintro i x H' hi ⟨s2, e2⟩
        obtain ⟨j, hj, rfl⟩ := nI_mem hi
        have CA2 := (CA.same s1).same s2
        obtain ⟨⟨dk, hk⟩, _⟩ := id CA2
        have sz : (nI ((((bes m.w m.h s).filter fun q => nearI (fldOf m) q s).take i).filter fun q => !(stoodI l q))).length < sizeLine := by
          rw [nI_len]
          exact small1000 (Nat.le_trans (filt_len _ _ _) (Nat.le_trans (List.length_filter_le _ _) (Nat.le_trans (bes_len _ _ _) (by decide))))
        refine ⟨rfl, _, rfl, pk, dk, _, rfl, hk, kR_no (by decide +kernel), _, rfl, pk, ps, l, gv, j, rfl, CA2, fun H3 s3 => ⟨_, rfl, ?_⟩⟩
        have e3 := s3 _ _ e2
        cases c : stoodI l j with
        | true =>
          refine if_f rfl ⟨s2.trans s3, ?_⟩
          rw [filt_no hj (by rw [c]; rfl)]
          exact e3
        | false =>
          refine if_t rfl ⟨_, rfl, _, e3, sz, fun b o q => ?_, ?_⟩
          · rw [upd_ne (ne_of_none q nD)]
            exact s3 b o (s2 b o q)
          · rw [upd_same, filt_yes hj (by rw [c]; rfl), nI_app]
            rfl
      · rintro H2 ⟨s2, e2⟩
        rw [nI_len, List.take_length, List.filter_filter] at e2
        have efr : ((bes m.w m.h s).filter fun a => !(stoodI l a) && nearI (fldOf m) a s) = freeI m (fldOf m) l s := rfl
        rw [efr] at e2
        have hfs : ∀ n ∈ freeI m (fldOf m) l s, ∃ x, fldOf m n = some x := fun n hn => by
          have z := (List.mem_filter.mp hn).2
          rw [Bool.and_eq_true] at z
          have z2 := z.2
          unfold nearI at z2
          cases c : fldOf m n with
          | none => rw [c] at z2; cases z2
          | some x => exact ⟨x, rfl⟩
        have hfl : ∀ n ∈ freeI m (fldOf m) l s, n < m.w * m.h := fun n hn => bes_lt hs (List.mem_filter.mp hn).1
        have s12 := s1.trans s2
        have x2 : ExtN H H2 := extN_of s12
        have t2 := tb.ext s12
        generalize hfr : freeI m (fldOf m) l s = fr at e2 hfs hfl
        refine ⟨_, rfl, D, _, rfl, .inl (SqL.of e2), rfl, _, rfl, ?_⟩
        rw [nI_len]
        by_cases c0 : fr = []
        · refine if_t (by rw [c0]; exact decide_eq_true rfl) ⟨_, rfl, ?_⟩
          have z := q H2 x2 t2
          have eg : goesI m (fldOf m) l s = s := by
            unfold goesI moveI
            rw [hfr, c0]
            rfl
          rw [eg] at z
          exact z
        · have hne : fr.length ≠ 0 := fun z => c0 (List.length_eq_zero_iff.mp z)
          refine if_f (decide_eq_false fun z => hne (by injection z with z; omega)) ?_
          refine ⟨D, .lst (nI fr), e2, trivial, fun od => ⟨_, rfl, tabs_upd t2 e2 (fun _ z => by cases z) (fun _ z => by cases z), D, od, iN fr, (fun n => (((fldOf m n.toNat).getD 0 : Nat) : Int)), rfl, (by rw [upd_same, nI_iN]), ?_, fun H3 x3 T3 => ⟨fun n hn => ?_, fun i mm hm hle => ?_⟩⟩⟩
          · exact fun z => c0 (List.map_eq_nil_iff.mp z)
          · obtain ⟨n', hn', rfl⟩ := List.mem_map.mp hn
            obtain ⟨x, hx⟩ := hfs n' hn'
            have x03 : ExtN H H3 := fun b o e n => x3 b o (by rw [upd_ne (ne_of_none e (s1.free nD))]; exact s12 b o e) n
            have L3 : SqL K H3 pf (fV (Ge07.field m)) := (L.ext x03).fl
            refine ⟨_, rfl, _, rfl, pf, _, _, _, rfl, rfl, L3, L.f (hfl n' hn'), ?_, rfl⟩
            rw [hx]
            show V.int (x : Int) = V.int (((fldOf m (n' : Int).toNat).getD 0 : Nat) : Int)
            rw [Int.toNat_natCast, hx]
            rfl
          · obtain ⟨q', hq', rfl⟩ := iN_of hm
            obtain ⟨x, hx⟩ := hfs q' (List.mem_of_getElem? hq')
            have h3 : H3 D = some (.frz od (.lst (nI fr))) := x3 D _ upd_same fun _ z => by cases z
            refine ⟨h3, ?_⟩
            have eg : goesI m (fldOf m) l s = q' := by
              unfold goesI moveI
              rw [hfr, move_first hq' hx]
              · rfl
              · intro k n y hk hy
                have z := hle k (n : Int) (iN_at hk)
                dsimp only at z
                rw [Int.toNat_natCast, Int.toNat_natCast, hx, hy] at z
                have z1 : (x : Int) ≤ (y : Int) := z.1
                have z2 : k < i → (x : Int) < (y : Int) := z.2
                exact ⟨by omega, fun kl => by have := z2 kl; omega⟩
            have z := q (upd H3 D (.lst (nI fr))) ?_ (tabs_upd T3 h3 (fun _ z => by cases z) (fun _ z => by cases z))
            · rw [eg] at z
              exact z
            · refine x2.trans fun b o e n => ?_
              by_cases hb : b = D
              · rw [hb, upd_same]
                rw [hb, e2] at e
                exact e
              · rw [upd_ne hb]
                refine x3 b o ?_ n
                rw [upd_ne hb]
                exact e
/-! ### turns -/
abbrev qTurns : Str := ("turns.<locals>.<lambda>" : Str)
def spotOf (l : List OneI) (n : Nat) : Nat := ((l.find? fun a => a.1 == n).map (·.2)).getD 0
theorem spotOf_at : ∀ {l : List OneI}, Dist l → ∀ {a : OneI}, a ∈ l → spotOf l a.1 = a.2
  | [], _, _, h => by cases h
  | b :: l, hd, a, h => by
    have hd' := List.pairwise_cons.mp hd
    unfold spotOf
    rcases List.mem_cons.mp h with e | h
    · rw [e, List.find?_cons_of_pos (p := fun x : OneI => x.1 == b.1) (beq_self_eq_true _)]
      rfl
    · rw [List.find?_cons_of_neg (p := fun x : OneI => x.1 == a.1) (by rw [beq_eq_false_iff_ne.mpr (hd'.1 a h)]; decide)]
      exact spotOf_at hd'.2 h
theorem leP_total (k1 k2 : Int → Int) : PySem.W.TotalLe (leP k1 k2) := by
  refine ⟨fun a b c h1 h2 => ?_, fun a b => ?_⟩
  · unfold leP at *
    simp only [decide_eq_true_iff] at *
    omega
  · unfold leP
    simp only [decide_eq_true_iff]
    omega
/-- the numbers of the near ones, in the order of their turns -/
def ordN (D : Nat → Option Nat) (l : List OneI) : List Nat := (ordI D (nearL D l)).map (·.1)
theorem sort_turns {D : Nat → Option Nat} {l : List OneI} (hl : Dist l) {k1 k2 : Int → Int} (h1 : ∀ a ∈ nearL D l, k1 (a.1 : Int) = (((D a.2).getD 0 : Nat) : Int)) (h2 : ∀ n, k2 n = n) :
    (iN ((nearL D l).map (·.1))).mergeSort (leP k1 k2) = iN (ordN D l) := by
  have e1 : iN ((nearL D l).map (·.1)) = (nearL D l).map fun a => ((a.1 : Nat) : Int) := by
    unfold iN
    rw [List.map_map]
    rfl
  have e2 := PySem.W.sort_maps (r := fun a b : OneI => leP k1 k2 ((a.1 : Nat) : Int) ((b.1 : Nat) : Int)) (s := leP k1 k2) (fun a : OneI => ((a.1 : Nat) : Int)) (l := nearL D l) (fun _ _ _ _ => rfl)
  rw [e1, ← e2]
  have hn : Dist (nearL D l) := hl.filter _
  have tot : PySem.W.TotalLe (fun a b : OneI => leP k1 k2 ((a.1 : Nat) : Int) ((b.1 : Nat) : Int)) := ⟨fun a b c => (leP_total k1 k2).trans _ _ _, fun a b => (leP_total k1 k2).total _ _⟩
  have hp : ((nearL D l).mergeSort fun a b : OneI => leP k1 k2 ((a.1 : Nat) : Int) ((b.1 : Nat) : Int)).Perm (nearL D l) := List.mergeSort_perm _ _
  have e3 : ((nearL D l).mergeSort fun a b : OneI => leP k1 k2 ((a.1 : Nat) : Int) ((b.1 : Nat) : Int)) = ordI D (nearL D l) := by
    refine sort_ord hn (fun a ha => (List.mem_filter.mp ha).2) hp ?_
    refine List.Pairwise.imp_of_mem (fun {a b} ha hb h => ?_) (PySem.W.sort_pairwise tot (nearL D l))
    unfold leP at h
    rw [decide_eq_true_iff, h1 a (hp.mem_iff.mp ha), h1 b (hp.mem_iff.mp hb), h2, h2] at h
    omega
  rw [e3]
  unfold ordN iN
  rw [List.map_map]
  rfl
def spTurns (K : PySem.W.Frag) (T : List (Addr × Str)) : Sp := fun vs H Q _ => ∃ (m : Ge07.Map) (ps pf : Addr) (l : List OneI), vs = [.ref ps, .ref pf] ∧ H ps = some (.dK (figK l)) ∧ FAt K H m pf ∧ OnI m l ∧ Dist l ∧ l.length ≤ 12 ∧ Tabs T H ∧
  ∀ H' p, ExtN H H' → Tabs T H' → Fresh H p → H' p = some (.lst (nI (ordN (fldOf m) l))) → Q (.ref p) H'
abbrev nTurns : List Str := ["spots", "field", "near", "number"]
theorem scTurns : FnScope nTurns ["spots", "field"] (defScope sTurns) := ⟨rfl, rfl, rfl, by decide +kernel, rfl, by decide +kernel, by decide +kernel⟩
theorem ok_turns {f c Pt : Addr} {k : Nat} {oc kV doc pm ct : Value} {od an : Option Addr} {osl : Array (Option Value)}
    (l : K.lookup f = some ⟨oc, od, .func (PySem.W.fnOf "turns" "turns" (defArgs sTurns) (defBody sTurns) (defScope sTurns) .none kV doc pm an (.ref c) ct), osl⟩) (hcd : PySem.W.codeIn K (.ref c) "turns" = true)
    (mS : mg "sorted" = none) (TB : TabB base mg c Pt) (hT : (Pt, qTurns) ∈ T) (hu : ∀ p ∈ T, p.1 = Pt → p.2 = qTurns) :
    FnOk P w K mg base CX0 (k + 4) f (PySem.W.fnOf "turns" "turns" (defArgs sTurns) (defBody sTurns) (defScope sTurns) .none kV doc pm an (.ref c) ct) ["spots", "field"] (spTurns K T) := by
  have nd := scTurns.nd
  refine fn_of l hcd scTurns (fun vs H Q E h => ?_) (fun A outer s H vs Q E hr h => ?_)
  · obtain ⟨m, ps, pf, l, rfl, _⟩ := h
    rfl
  · have hr3 : Room 3 _ := hr.mono (show 3 ≤ k + 3 by omega)
    refine ⟨_, PSs.nox (pss_cons (ps_lock (ps_setLc (i := 2) (own := [("number", 3)]) (g := gName 3) rfl nd rfl rfl (sw_true rfl rfl rfl (by decide +kernel)) (pi_keys (pv 0)) (blkOk_by (N := nTurns) (sc := defScope sTurns) (by decide +kernel)) (fun _ _ _ _ _ => pg_name (i := 3) nd rfl (Or.inl rfl))
        (fun _ _ _ _ _ => pts_one (pt_cmpR op_notN (pe_ix (ixL (K := K)) (pv 1) (pe_dget (hu_of hr) (pv 0) (pv 3) (fun _ _ => rfl)) (fun _ _ => rfl)) pe_non (nomark _))) (fun _ _ _ _ _ => pv 3)))
      (pss_one (ps_ret (pe_sortKey (T := T) (c := c) (P := Pt) (k := 0) (x := "number") (fr := ["field", "spots"]) (N := ["number", "field", "spots"]) (js := [1, 0]) rfl mS TB rfl hT hu hr3 rfl (nscope_by (by decide +kernel)) ?_ ?_ rfl
        (fun _ _ _ _ _ _ => rfl) (pa_cons (pv 2) pa_nil) (fun A' outer' s' H' f' c' hr' => pe_tup (pa_cons (pe_ix (ixL (K := K)) (pv 1) (pe_dget (hu_of hr') (pv 2) (pv 0) (fun _ _ => rfl)) (fun _ _ => rfl)) (pa_cons (pv 0) pa_nil))))))), ?_⟩
    · exact ndef_free (sc := defScope sTurns) (fr := ["field", "spots"]) (by decide +kernel)
    · exact ndef_fr (sc := defScope sTurns) (by decide +kernel)
    · obtain ⟨m, ps, pf, l, rfl, h2, L, hon, hdi, h12, tb, q⟩ := h
      refine ⟨ps, .dK (figK l), h2, trivial, fun od => ?_⟩
      have s0 : ∀ b o, H b = some o → b ≠ ps → upd H ps (.frz od (.dK (figK l))) b = some o := fun b o e n => by rw [upd_ne n]; exact e
      have L0 : FAt K (upd H ps (.frz od (.dK (figK l)))) m pf := ⟨sq_other L.fl h2 (fun _ z => by cases z) (fun _ _ z => by cases z), L.w0, L.w12⟩
      refine ⟨_, rfl, ps, od, rfl, .inl ⟨figK l, upd_same, fun D nD => lc_it walk_keys (fun i H' => Same (upd H ps (.frz od (.dK (figK l)))) H' ∧ H' D = some (.lst (nI ((nearL (fldOf m) (l.take i)).map (·.1))))) ⟨same_upd nD, upd_same⟩ (fun i H' _ z => z.1 _ _ upd_same) ?_ ?_⟩⟩
      · rintro i x H' H'' hi ⟨s1, e1⟩ ⟨rfl, ky, v, hk, rfl⟩
        unfold figK at hk
        rw [List.getElem?_map] at hk
        obtain ⟨a, ha, ea⟩ := Option.map_eq_some_iff.mp hk
        cases ea
        have am := List.mem_of_getElem? ha
        have L1 := L0.to s1
        have sz : (nI ((nearL (fldOf m) (l.take i)).map (·.1))).length < sizeLine := by
          rw [nI_len, List.length_map]
          exact small1000 (Nat.le_trans (filt_len _ _ _) (Nat.le_trans h12 (by decide)))
        refine ⟨rfl, _, rfl, _, rfl, _, rfl, ps, .int ((a.2 : Nat) : Int), rfl, .inl ⟨figK l, Sum.inl (a.1 : Int), .inr ⟨od, s1 _ _ upd_same⟩, rfl, (figK_val hdi am).symm⟩, pf, _, _, _, rfl, rfl, L1.fl, L1.f (hon a am), rfl, _, rfl, ?_⟩
        cases c : fldOf m a.2 with
        | none =>
          refine if_f rfl ⟨s1, ?_⟩
          unfold nearL
          rw [filt_no ha (by rw [c]; rfl)]
          exact e1
        | some d =>
          refine if_t rfl ⟨_, rfl, _, e1, sz, fun b o e => ?_, ?_⟩
          · rw [upd_ne (ne_of_none e nD)]
            exact s1 b o e
          · rw [upd_same]
            unfold nearL
            rw [filt_yes ha (by rw [c]; rfl), List.map_append, nI_app]
            rfl
      · rintro H1 ⟨s1, e1⟩
        rw [figK_len, List.take_length] at e1
        refine ⟨s1 _ _ upd_same, ?_⟩
        have nDp : D ≠ ps := fun z => by rw [z, upd_same] at nD; cases nD
        have e2 : upd H1 ps (.dK (figK l)) D = some (.lst (nI ((nearL (fldOf m) l).map (·.1)))) := by rw [upd_ne nDp]; exact e1
        have s2 : Same H (upd H1 ps (.dK (figK l))) := fun b o e => by
          by_cases hb : b = ps
          · rw [hb, upd_same]
            rw [hb, h2] at e
            exact e
          · rw [upd_ne hb]
            exact s1 b o (s0 b o e hb)
        generalize upd H1 ps (.dK (figK l)) = H2 at e2 s2
        refine ⟨_, rfl, tb.ext s2, D, iN ((nearL (fldOf m) l).map (·.1)), (fun n => (((fldOf m (spotOf l n.toNat)).getD 0 : Nat) : Int)), (fun n => n), rfl, (by rw [← nI_iN]; exact SqL.of e2), fun H3 x3 T3 => ⟨(by rw [← nI_iN]; exact SqL.of (x3 _ _ e2 fun _ z => by cases z)), fun H4 s4 n hn => ?_, fun H4 p s4 np => ?_⟩⟩
        · obtain ⟨n', hn', rfl⟩ := List.mem_map.mp hn
          obtain ⟨a, ha, rfl⟩ := List.mem_map.mp hn'
          obtain ⟨am, as⟩ := List.mem_filter.mp ha
          have h4 : H4 ps = some (.dK (figK l)) := s4 _ _ (x3 _ _ (s2 _ _ h2) fun _ z => by cases z)
          have L4 : FAt K H4 m pf := ((L.to s2).ext x3).to s4
          refine ⟨_, rfl, _, rfl, _, rfl, ps, .int ((a.2 : Nat) : Int), rfl, .inl ⟨figK l, Sum.inl (a.1 : Int), .inl h4, rfl, (figK_val hdi am).symm⟩, pf, _, _, _, rfl, rfl, L4.fl, L4.f (hon a am), _, rfl, (by show 2 ≤ sizeLine; decide), fun t nt => ⟨t, rfl, nt, ?_⟩⟩
          cases c : fldOf m a.2 with
          | none => rw [c] at as; cases as
          | some d =>
            have e5 : (((fldOf m (spotOf l ((a.1 : Nat) : Int).toNat)).getD 0 : Nat) : Int) = (d : Int) := by
              rw [Int.toNat_natCast, spotOf_at hdi am, c]
              rfl
            show _ = upd H4 t (.tup [.int (((fldOf m (spotOf l ((a.1 : Nat) : Int).toNat)).getD 0 : Nat) : Int), .int ((a.1 : Nat) : Int)])
            rw [e5]
            rfl
        · have es := sort_turns (D := fldOf m) hdi (k1 := fun n => (((fldOf m (spotOf l n.toNat)).getD 0 : Nat) : Int)) (k2 := fun n => n) (fun a ha => by
            rw [Int.toNat_natCast, spotOf_at hdi (List.mem_filter.mp ha).1]) (fun _ => rfl)
          rw [es, ← nI_iN]
          have x4 : ExtN H H4 := (extN_of s2).trans (x3.trans (extN_of s4))
          exact q _ p (x4.trans (extN_of (same_upd np))) (tabs_new (T3.ext s4) np) (fresh_ext x4 np) upd_same
end
end Gf
set_option Elab.async false
set_option linter.all false
set_option maxRecDepth 100000
set_option maxHeartbeats 2000000
namespace Gf
open PySem PySem.Spec PyProof.Rows L2 LamX NdefX
theorem pe_fldK {X : Cx} {K : PySem.W.Frag} {e : Expr} {f : Str} {pos : Pos} {ta : TE} (he : PE X e ta) (hb : attributeBase e f X.env (eval e X.env) = eval e X.env) (h : X.K = K := by rfl) : PE X (.Attribute e f pos) (tFld K ta f) := by
  subst h
  exact pe_fld he hb
section
variable {P : Program} {w : World} {K : PySem.W.Frag} {mg : Str → Option Value} {base : Heap} {CC : Addr} {T : List (Addr × Str)}
/-! ### leave_goals -/
abbrev sLeaveG : Stmt := inClass sCrowd 7
def spLeaveG (K : PySem.W.Frag) (CC : Addr) : Sp := fun vs H Q _ => ∃ (m : Ge07.Map) (pk ps pf : Addr) (r : List OneI) (gv : Nat), vs = [.ref pk, .ref pf] ∧ CrowdAt CC H pk ps r gv ∧ FAt K H m pf ∧ OnI m r ∧ Dist r ∧ r.length ≤ 12 ∧
  ∀ H' p, CrowdAt CC H' pk ps (leftI (fldOf m) r) gv → (∀ b o, H b = some o → b ≠ ps → H' b = some o) → H p = none → H' p = some (.lst (nI (goneI (fldOf m) r))) → Q (.ref p) H'
abbrev nLeaveG : List Str := ["self", "field", "number", "gone"]
theorem scLeaveG : FnScope nLeaveG ["self", "field"] (defScope sLeaveG) := ⟨rfl, rfl, rfl, by decide +kernel, rfl, by decide +kernel, by decide +kernel⟩
def atGoal (D : Nat → Option Nat) (a : OneI) : Bool := D a.2 == some 0
theorem gone_nodup {D : Nat → Option Nat} {r : List OneI} (h : Dist r) : (goneI D r).Pairwise (· ≠ ·) := by
  unfold goneI
  rw [List.pairwise_map]
  exact h.filter _
theorem ok_leaveG {f : Addr} {fd : FuncData} {k : Nat} (F : Fun K "leave_goals" "Crowd.leave_goals" sLeaveG f fd) (TK : KTxt K mg CC) : FnOk P w K mg base CX0 (k + 1) f fd ["self", "field"] (spLeaveG K CC) := by
  have nd := scLeaveG.nd
  refine F.ok scLeaveG (fun vs H Q E h => ?_) (fun cdv A outer s H vs Q E hr h => ?_)
  · obtain ⟨m, pk, ps, pf, r, gv, rfl, _⟩ := h
    rfl
  · refine ⟨_, pss_cons (ps_lock (ps_setLc (i := 3) (own := [("number", 2)]) (g := gName 2) rfl nd rfl rfl (sw_true rfl rfl rfl (by decide +kernel)) (pi_keys (pe_fld (pv 0) rfl)) (blkOk_by (N := nLeaveG) (sc := defScope sLeaveG) (by decide +kernel)) (fun _ _ _ _ _ => pg_name (i := 2) nd rfl (Or.inl rfl))
        (fun _ _ _ _ _ => pts_one (pt_cmpR op_eq (pe_ix (ixL (K := K)) (pv 1) (pe_dget (hu_of hr) (pe_fldK (K := K) (pv 0) rfl) (pv 2) (fun _ _ => rfl)) (fun _ _ => rfl)) pe_int (nomark _))) (fun _ _ _ _ _ => pv 2)))
      (pss_cons (ps_for PassesOwn.never rfl (pi_list (pv 3)) (pg_name (i := 2) nd rfl (.inl rfl)) (pss_one (ps_expr (pe_dpop1 (pe_fld (pv 0) rfl) (pv 2) ⟨rfl, rfl, rfl, rfl⟩))))
      (pss_one (ps_ret (pv 3)))), ?_⟩
    obtain ⟨m, pk, ps, pf, r, gv, rfl, ⟨⟨dk, h1⟩, h2⟩, L, hon, hdi, h12, q⟩ := h
    have nk : pk ≠ ps := ne_of h1 h2 (by intro z; cases z)
    refine ⟨ps, .dK (figK r), h2, trivial, fun od => ?_⟩
    have h1' : upd H ps (.frz od (.dK (figK r))) pk = some (.ins CC dk (kR (.ref ps) (.int (gv : Nat)))) := by rw [upd_ne nk]; exact h1
    have L0 : FAt K (upd H ps (.frz od (.dK (figK r)))) m pf := ⟨sq_other L.fl h2 (fun _ z => by cases z) (fun _ _ z => by cases z), L.w0, L.w12⟩
    refine ⟨_, rfl, pk, CC, dk, _, _, rfl, h1', TK.cl, TK.nS, kR_spots, ps, od, rfl, .inl ⟨figK r, upd_same, fun D nD => lc_it walk_keys (fun i H' => Same (upd H ps (.frz od (.dK (figK r)))) H' ∧ H' D = some (.lst (nI (((r.take i).filter fun a => fldOf m a.2 == some 0).map (·.1))))) ⟨same_upd nD, upd_same⟩ (fun i H' _ z => z.1 _ _ upd_same) ?_ ?_⟩⟩
    · rintro i x H' H'' hi ⟨s1, e1⟩ ⟨rfl, ky, v, hk, rfl⟩
      unfold figK at hk
      rw [List.getElem?_map] at hk
      obtain ⟨a, ha, ea⟩ := Option.map_eq_some_iff.mp hk
      cases ea
      have am := List.mem_of_getElem? ha
      have L1 := L0.to s1
      have sz : (nI (((r.take i).filter fun a => fldOf m a.2 == some 0).map (·.1))).length < sizeLine := by
        rw [nI_len, List.length_map]
        exact small1000 (Nat.le_trans (filt_len _ _ _) (Nat.le_trans h12 (by decide)))
      refine ⟨rfl, _, rfl, _, rfl, pk, CC, dk, _, _, rfl, s1 _ _ h1', TK.cl, TK.nS, kR_spots, _, rfl, ps, .int ((a.2 : Nat) : Int), rfl, .inl ⟨figK r, Sum.inl (a.1 : Int), .inr ⟨od, s1 _ _ upd_same⟩, rfl, (figK_val hdi am).symm⟩, pf, _, _, _, rfl, rfl, L1.fl, L1.f (hon a am), ?_⟩
      have em : scal (oV (fldOf m a.2)) (.int 0) = true ∧ decide (oV (fldOf m a.2) = V.int 0) = (fldOf m a.2 == some 0) := by
        cases c : fldOf m a.2 with
        | none => exact ⟨rfl, rfl⟩
        | some d =>
          refine ⟨rfl, ?_⟩
          by_cases z : d = 0
          · rw [z]
            rfl
          · rw [beq_eq_false_iff_ne.mpr (fun y => z (Option.some.inj y))]
            exact decide_eq_false fun y => z (by
              have y' : V.int (d : Int) = V.int 0 := y
              injection y' with y'
              omega)
      refine ⟨em.1, _, rfl, ?_⟩
      rw [em.2]
      cases c : (fldOf m a.2 == some 0) with
      | false =>
        refine if_f rfl ⟨s1, ?_⟩
        rw [filt_no ha c]
        exact e1
      | true =>
        refine if_t rfl ⟨_, rfl, _, e1, sz, fun b o e => ?_, ?_⟩
        · rw [upd_ne (ne_of_none e nD)]
          exact s1 b o e
        · rw [upd_same, filt_yes ha c, List.map_append, nI_app]
          rfl
    · rintro H1 ⟨s1, e1⟩
      rw [figK_len, List.take_length] at e1
      refine ⟨s1 _ _ upd_same, ?_⟩
      have nDp : D ≠ ps := fun z => by rw [z, upd_same] at nD; cases nD
      have nD0 : H D = none := by
        rw [upd_ne nDp] at nD
        exact nD
      have e2 : upd H1 ps (.dK (figK r)) D = some (.lst (nI (goneI (fldOf m) r))) := by rw [upd_ne nDp]; exact e1
      have s2 : ∀ b o, H b = some o → b ≠ ps → upd H1 ps (.dK (figK r)) b = some o := fun b o e hb => by
        rw [upd_ne hb]
        exact s1 b o (by rw [upd_ne hb]; exact e)
      have h22 : upd H1 ps (.dK (figK r)) ps = some (.dK (figK r)) := upd_same
      generalize upd H1 ps (.dK (figK r)) = H2 at e2 s2 h22
      have fg : ∀ n ∈ goneI (fldOf m) r, ∃ a ∈ r, a.1 = n := fun n hn => by
        obtain ⟨a, ha, e⟩ := List.mem_map.mp hn
        exact ⟨a, (List.mem_filter.mp ha).1, e⟩
      have hleft := left_is (D := fldOf m) hdi
      have hnd := gone_nodup (D := fldOf m) hdi
      generalize goneI (fldOf m) r = gn at e2 fg hleft hnd q
      refine ⟨_, rfl, D, rfl, ⟨_, SqL.of e2⟩, for_list (K := K) (a := D) (xs := nI gn) (fun i σ H' => ∃ v : Option V, σ = [some (.ref pk), some (.ref pf), v, some (.ref D)] ∧ (∀ b o, H b = some o → b ≠ ps → H' b = some o) ∧ H' D = some (.lst (nI gn)) ∧ H' ps = some (.dK (figK (r.filter fun a => !((gn.take i).contains a.1)))))
        ⟨none, rfl, s2, e2, ?_⟩ (fun i σ H' _ ⟨_, _, _, z, _⟩ => SqL.of z) ?_ ?_⟩
      · rw [h22]
        have e0 : (r.filter fun a => !((gn.take 0).contains a.1)) = r := List.filter_eq_self.mpr fun a _ => rfl
        rw [e0]
      · rintro i y σ H' hi ⟨v, rfl, s3, e3, h3⟩
        obtain ⟨n, hn, rfl⟩ := nI_mem hi
        obtain ⟨a, ha, rfl⟩ := fg n (List.mem_of_getElem? hn)
        have hni : a.1 ∉ gn.take i := fun z => by
          obtain ⟨j, hj, ej⟩ := List.mem_iff_getElem.mp z
          rw [List.length_take] at hj
          rw [List.getElem_take] at ej
          obtain ⟨hil, ei⟩ := List.getElem?_eq_some_iff.mp hn
          exact (List.pairwise_iff_getElem.mp hnd) j i (by omega) hil (by omega) (ej.trans ei.symm)
        have ham : a ∈ r.filter fun a => !((gn.take i).contains a.1) := List.mem_filter.mpr ⟨ha, by
          cases c : (gn.take i).contains a.1 with
          | false => rfl
          | true => exact absurd (List.contains_iff_mem.mp c) hni⟩
        have hv := figK_val (hdi.filter fun a => !((gn.take i).contains a.1)) ham
        refine ⟨_, rfl, pk, CC, dk, _, _, rfl, s3 _ _ h1 nk, TK.cl, TK.nS, kR_spots, ps, rfl, .inl ⟨_, .inl h3⟩, _, rfl, _, Sum.inl (a.1 : Int), _, h3, rfl, hv, some (.int ((a.1 : Nat) : Int)), rfl, fun b o e hb => ?_, ?_, ?_⟩
        · rw [upd_ne hb]
          exact s3 b o e hb
        · rw [upd_ne nDp]
          exact e3
        · rw [upd_same, figK_drop, List.filter_filter, take_next hn]
          congr 4
          funext b
          rw [List.contains_eq_any_beq, List.contains_eq_any_beq, List.any_append, Bool.not_or, Bool.and_comm]
          congr 1
          rw [List.any_cons, List.any_nil, Bool.or_false]
          rfl
      · rintro σ H' ⟨v, rfl, s3, e3, h3⟩
        rw [nI_len, List.take_length, hleft] at h3
        exact ⟨_, rfl, q H' D ⟨⟨dk, s3 _ _ h1 nk⟩, h3⟩ s3 nD0 e3⟩
end
end Gf
set_option Elab.async false
set_option linter.all false
set_option maxRecDepth 100000
set_option maxHeartbeats 2000000
namespace Gf
open PySem PySem.Spec PyProof.Rows L2 LamX NdefX
section
variable {P : Program} {w : World} {K : PySem.W.Frag} {mg : Str → Option Value} {base : Heap} {CC : Addr} {T : List (Addr × Str)}
/-! ### take_step -/
abbrev sTakeStep : Stmt := inClass sCrowd 5
/-- all but the tables and the dict of spots stands -/
def ButD (ps : Addr) (H H' : Hp) : Prop := ∀ b o, H b = some o → b ≠ ps → (∀ us, o ≠ .tbl us) → H' b = some o
theorem ButD.refl (ps : Addr) (H : Hp) : ButD ps H H := fun _ _ e _ _ => e
theorem ButD.trans {ps : Addr} {H H1 H2 : Hp} (x : ButD ps H H1) (y : ButD ps H1 H2) : ButD ps H H2 := fun b o e n t => y b o (x b o e n t) n t
theorem ButD.of {ps : Addr} {H H' : Hp} (x : ExtN H H') : ButD ps H H' := fun b o e _ t => x b o e t
theorem ButD.fresh {ps : Addr} {H H' : Hp} {p : Addr} {o : HO} (x : ButD ps H H') (h : H' ps = some o) (np : H' p = none) (hne : ∀ us, o ≠ .tbl us) : Fresh H p := fun u e => by
  by_cases hp : p = ps
  · rw [hp, h] at np
    cases np
  · cases u with
    | tbl us => exact ⟨us, rfl⟩
    | _ =>
      rw [x p _ e hp (fun _ z => by cases z)] at np
      cases np
theorem butD_sq {ps a : Addr} {H H' : Hp} {xs : List V} {o : HO} (x : ButD ps H H') (hp : H ps = some o) (n1 : ∀ ys, o ≠ .lst ys) (n2 : ∀ ob u, o ≠ .frz ob u) (h : SqL K H a xs) : SqL K H' a xs := by
  rcases h with (h | ⟨ob, h⟩) | h
  · exact .inl (.inl (x _ _ h (fun z => by rw [z, hp] at h; exact n1 _ (Option.some.inj h)) fun _ z => by cases z))
  · exact .inl (.inr ⟨ob, x _ _ h (fun z => by rw [z, hp] at h; exact n2 _ _ (Option.some.inj h)) fun _ z => by cases z⟩)
  · exact .inr h
def spTakeStep (K : PySem.W.Frag) (CC : Addr) (T : List (Addr × Str)) : Sp := fun vs H Q _ => ∃ (m : Ge07.Map) (pk ps pf : Addr) (l : List OneI) (gv : Nat), vs = [.ref pk, .int m.w, .int m.h, .ref pf] ∧ CrowdAt CC H pk ps l gv ∧ FAt K H m pf ∧ OnI m l ∧ Dist l ∧ l.length ≤ 12 ∧ Tabs T H ∧
  ∀ H' p, CrowdAt CC H' pk ps (leftI (fldOf m) (allI m (fldOf m) l)) gv → ButD ps H H' → Tabs T H' → Fresh H p → H' p = some (.lst (nI (goneI (fldOf m) (allI m (fldOf m) l)))) → Q (.ref p) H'
theorem scTakeStep : FnScope ["self", "wide", "high", "field", "order", "number"] ["self", "wide", "high", "field"] (defScope sTakeStep) := ⟨rfl, rfl, rfl, by decide +kernel, rfl, by decide +kernel, by decide +kernel⟩
theorem ok_takeStep {f fT fG fL : Addr} {fd fdT fdG fdL : FuncData} {k : Nat} (F : Fun K "take_step" "Crowd.take_step" sTakeStep f fd) (TK : KTxt K mg CC)
    (GT : FnOk P w K mg base CX0 4 fT fdT ["spots", "field"] (spTurns K T)) (bT : Binds K fdT ["spots", "field"] []) (mT : mg "turns" = some (.ref fT)) (kT : PySem.W.keepIn K (.ref fT) = true)
    (GG : FnOk P w K mg base CX0 3 fG fdG ["self", "wide", "high", "field", "spot"] (spGoesTo K CC T)) (bG : Binds K fdG ["self", "wide", "high", "field", "spot"] []) (mG : Meth K CC "goes_to" fG)
    (GL : FnOk P w K mg base CX0 1 fL fdL ["self", "field"] (spLeaveG K CC)) (bL : Binds K fdL ["self", "field"] []) (mL : Meth K CC "leave_goals" fL) :
    FnOk P w K mg base CX0 (k + 5) f fd ["self", "wide", "high", "field"] (spTakeStep K CC T) := by
  have nd := scTakeStep.nd
  refine F.ok scTakeStep (fun vs H Q E h => ?_) (fun cdv A outer s H vs Q E hr h => ?_)
  · obtain ⟨m, pk, ps, pf, l, gv, rfl, _⟩ := h
    rfl
  · have hr1 : Room 1 _ := hr.mono (show 1 ≤ k + 4 by omega)
    have hr3 : Room 3 _ := hr.mono (show 3 ≤ k + 4 by omega)
    have hr4 : Room 4 _ := hr.mono (show 4 ≤ k + 4 by omega)
    refine ⟨_, pss_cons (ps_set (i := 4) nd rfl (.inl rfl) (pe_call GT hr4 rfl mT kT bT .nil pass0 (pa_cons (pe_fld (pv 0) rfl) (pa_cons (pv 3) pa_nil))))
      (pss_cons (ps_for PassesOwn.never rfl (pi_list (pv 4)) (pg_name (i := 5) nd rfl (.inl rfl)) (pss_one (ps_dput (hu_of hr) (pe_fld (pv 0) rfl) (pv 5)
        (pe_meth (pv 0) TK.cl mG GG hr3 bG .nil pass0 (pa_cons (pv 1) (pa_cons (pv 2) (pa_cons (pv 3) (pa_cons (pe_dget (hu_of hr) (pe_fld (pv 0) rfl) (pv 5) (fun _ _ => rfl)) pa_nil))))) rfl)))
      (pss_one (ps_ret (pe_meth (pv 0) TK.cl mL GL hr1 bL .nil pass0 (pa_cons (pv 3) pa_nil))))), ?_⟩
    obtain ⟨m, pk, ps, pf, l, gv, rfl, CA, L, hon, hdi, h12, tb, q⟩ := h
    obtain ⟨⟨dk, h1⟩, h2⟩ := id CA
    have nk : pk ≠ ps := CA.ne
    have hdn : Dist (nearL (fldOf m) l) := hdi.filter _
    have ho : Dist (ordI (fldOf m) (nearL (fldOf m) l)) := ((ord_perm _).pairwise_iff (fun {a b} h e => h e.symm)).mpr hdn
    have hmem : ∀ a ∈ ordI (fldOf m) (nearL (fldOf m) l), a ∈ l ∧ ∃ d, fldOf m a.2 = some d := fun a ha => by
      obtain ⟨a1, a2⟩ := List.mem_filter.mp ((ord_perm _).mem_iff.mp ha)
      refine ⟨a1, ?_⟩
      cases c : fldOf m a.2 with
      | none => rw [c] at a2; cases a2
      | some d => exact ⟨d, rfl⟩
    have hall : allI m (fldOf m) l = (ordI (fldOf m) (nearL (fldOf m) l)).foldl (stepI m (fldOf m)) l := all_near hdi
    -- order = turns(self.spots, field)
    refine ⟨_, rfl, pk, CC, dk, _, _, rfl, h1, TK.cl, TK.nS, kR_spots, _, rfl, m, ps, pf, l, rfl, h2, L, hon, hdi, h12, tb, fun H1 po x1 t1 npo e1 => ?_⟩
    have e1' : H1 po = some (.lst (nI ((ordI (fldOf m) (nearL (fldOf m) l)).map (·.1)))) := e1
    generalize hord : ordI (fldOf m) (nearL (fldOf m) l) = o at ho hmem hall e1'
    have npop : po ≠ ps := (npo.ne h2 fun _ z => by cases z).symm
    refine ⟨_, rfl, po, rfl, ⟨_, SqL.of e1'⟩, for_list (K := K) (a := po) (xs := nI (o.map (·.1))) (fun i σ H' => ∃ v : Option V, σ = [some (.ref pk), some (.int m.w), some (.int m.h), some (.ref pf), some (.ref po), v] ∧ CrowdAt CC H' pk ps ((o.take i).foldl (stepI m (fldOf m)) l) gv ∧ ButD ps H H' ∧ Tabs T H' ∧ H' po = some (.lst (nI (o.map (·.1)))))
      ⟨none, rfl, CA.ext x1, ButD.of x1, t1, e1'⟩ (fun i σ H' _ ⟨_, _, _, _, _, z⟩ => SqL.of z) ?_ ?_⟩
    · rintro i y σ H' hi ⟨v, rfl, C2, b2, t2, e2⟩
      obtain ⟨n, hn, rfl⟩ := nI_mem hi
      rw [List.getElem?_map] at hn
      obtain ⟨a, ha, rfl⟩ := Option.map_eq_some_iff.mp hn
      obtain ⟨d1, m1, es⟩ := turn_at (m := m) (D := fldOf m) hdi (fun a ha => (hmem a ha).1) ho ha
      obtain ⟨al, d, hd⟩ := hmem a (List.mem_of_getElem? ha)
      have hal := hon a al
      obtain ⟨⟨dk2, k1⟩, k2⟩ := id C2
      have L2 : FAt K H' m pf := ⟨butD_sq b2 h2 (fun _ z => by cases z) (fun _ _ z => by cases z) L.fl, L.w0, L.w12⟩
      have hlen : ((o.take i).foldl (stepI m (fldOf m)) l).length ≤ 12 := by
        have e := congrArg List.length (steps_fst (m := m) (D := fldOf m) (o.take i) l)
        rw [List.length_map, List.length_map] at e
        omega
      generalize (o.take i).foldl (stepI m (fldOf m)) l = li at d1 m1 es C2 k2 hlen
      -- self.spots[number] = self.goes_to(wide, high, field, self.spots[number])
      refine ⟨_, rfl, pk, dk2, _, rfl, k1, kR_no (by decide +kernel), _, rfl, _, rfl, _, rfl, _, rfl, pk, CC, dk2, _, _, rfl, k1, TK.cl, TK.nS, kR_spots, _, rfl, ps, .int ((a.2 : Nat) : Int), rfl, .inl ⟨figK li, Sum.inl (a.1 : Int), .inl k2, rfl, (figK_val d1 m1).symm⟩, m, pk, ps, pf, li, gv, a.2, d, rfl, C2, L2, hal, hd, t2, fun H3 x3 t3 => ?_⟩
      obtain ⟨⟨dk3, k3⟩, k4⟩ := C2.ext x3
      refine ⟨_, rfl, pk, CC, dk3, _, _, rfl, k3, TK.cl, TK.nS, kR_spots, _, rfl, ps, _, rfl, DPut.k (k := Sum.inl (a.1 : Int)) k4 (small1000 (by rw [figK_len]; omega)), _, rfl, ⟨⟨dk3, ?_⟩, ?_⟩, ?_, tabs_upd t3 k4 (fun _ z => by cases z) (fun _ z => by cases z), ?_⟩
      · rw [upd_ne nk]
        exact k3
      · rw [upd_same, figK_put (List.mem_map.mpr ⟨a, m1, rfl⟩), es]
      · exact fun b o e hb t => by
          rw [upd_ne hb]
          exact x3 b o (b2 b o e hb t) t
      · rw [upd_ne npop]
        exact x3 _ _ e2 fun _ z => by cases z
    · rintro σ H' ⟨v, rfl, C2, b2, t2, e2⟩
      rw [nI_len, List.length_map, List.take_length, ← hall] at C2
      obtain ⟨⟨dk2, k1⟩, k2⟩ := id C2
      have L2 : FAt K H' m pf := ⟨butD_sq b2 h2 (fun _ z => by cases z) (fun _ _ z => by cases z) L.fl, L.w0, L.w12⟩
      have hon2 : OnI m (allI m (fldOf m) l) := by
        rw [hall]
        exact steps_on _ _ (fun a ha => hon a (hmem a ha).1) hon
      have hdi2 : Dist (allI m (fldOf m) l) := by
        rw [hall, dist_iff, steps_fst, ← dist_iff]
        exact hdi
      refine ⟨_, rfl, pk, dk2, _, rfl, k1, kR_no (by decide +kernel), _, rfl, m, pk, ps, pf, allI m (fldOf m) l, gv, rfl, C2, L2, hon2, hdi2, (by rw [all_len]; exact h12), fun H3 p C3 b3 np e3 => ?_⟩
      have b23 : ButD ps H H3 := fun b o e hb t => b3 b o (b2 b o e hb t) hb
      refine q H3 p C3 b23 (fun x hx => ?_) (b2.fresh k2 np fun _ z => by cases z) e3
      obtain ⟨us, u1, u2, u3⟩ := t2 x hx
      refine ⟨us, b3 _ _ u1 (fun z => by rw [z, k2] at u1; cases u1), u2, fun pos cv hc => ?_⟩
      obtain ⟨c, r1, r2⟩ := u3 pos cv hc
      exact ⟨c, r1, b3 _ _ r2 (fun z => by rw [z, k2] at r2; cases r2)⟩
end
end Gf
set_option Elab.async false
set_option linter.all false
set_option maxRecDepth 100000
set_option maxHeartbeats 2000000
namespace Gf
open PySem PySem.Spec PyProof.Rows L2 LamX NdefX
/-! ### Land: how the house lies in the heap -/
abbrev sLand : Stmt := topS 23
def lR (wd hg pc pg pk pf : V) : List (Str × V) := [("wide", wd), ("high", hg), ("costs", pc), ("goals", pg), ("crowd", pk), ("field", pf)]
section
variable {wd hg pc pg pk pf v : V}
theorem lR_wide : (lR wd hg pc pg pk pf).lookup ("wide" : Str) = some wd := lk_here
theorem lR_high : (lR wd hg pc pg pk pf).lookup ("high" : Str) = some hg := (lk_past (by decide +kernel)).trans lk_here
theorem lR_costs : (lR wd hg pc pg pk pf).lookup ("costs" : Str) = some pc := (lk_past (by decide +kernel)).trans ((lk_past (by decide +kernel)).trans lk_here)
theorem lR_goals : (lR wd hg pc pg pk pf).lookup ("goals" : Str) = some pg := (lk_past (by decide +kernel)).trans ((lk_past (by decide +kernel)).trans ((lk_past (by decide +kernel)).trans lk_here))
theorem lR_crowd : (lR wd hg pc pg pk pf).lookup ("crowd" : Str) = some pk := (lk_past (by decide +kernel)).trans ((lk_past (by decide +kernel)).trans ((lk_past (by decide +kernel)).trans ((lk_past (by decide +kernel)).trans lk_here)))
theorem lR_field : (lR wd hg pc pg pk pf).lookup ("field" : Str) = some pf := (lk_past (by decide +kernel)).trans ((lk_past (by decide +kernel)).trans ((lk_past (by decide +kernel)).trans ((lk_past (by decide +kernel)).trans ((lk_past (by decide +kernel)).trans lk_here))))
theorem lR_no {m : Str} (h : ((["wide", "high", "costs", "goals", "crowd", "field"] : List Str).all fun k => !(m == k)) = true) : (lR wd hg pc pg pk pf).lookup m = none := lk_none _ rfl h
theorem lR_putW : putF "wide" v (lR wd hg pc pg pk pf) = lR v hg pc pg pk pf := put_here
theorem lR_putH : putF "high" v (lR wd hg pc pg pk pf) = lR wd v pc pg pk pf := (put_past (by decide +kernel)).trans (congrArg _ put_here)
theorem lR_putC : putF "costs" v (lR wd hg pc pg pk pf) = lR wd hg v pg pk pf := (put_past (by decide +kernel)).trans (congrArg _ ((put_past (by decide +kernel)).trans (congrArg _ put_here)))
theorem lR_putG : putF "goals" v (lR wd hg pc pg pk pf) = lR wd hg pc v pk pf := (put_past (by decide +kernel)).trans (congrArg _ ((put_past (by decide +kernel)).trans (congrArg _ ((put_past (by decide +kernel)).trans (congrArg _ put_here)))))
theorem lR_putK : putF "crowd" v (lR wd hg pc pg pk pf) = lR wd hg pc pg v pf := (put_past (by decide +kernel)).trans (congrArg _ ((put_past (by decide +kernel)).trans (congrArg _ ((put_past (by decide +kernel)).trans (congrArg _ ((put_past (by decide +kernel)).trans (congrArg _ put_here)))))))
theorem lR_putF : putF "field" v (lR wd hg pc pg pk pf) = lR wd hg pc pg pk v := (put_past (by decide +kernel)).trans (congrArg _ ((put_past (by decide +kernel)).trans (congrArg _ ((put_past (by decide +kernel)).trans (congrArg _ ((put_past (by decide +kernel)).trans (congrArg _ ((put_past (by decide +kernel)).trans (congrArg _ put_here)))))))))
end
theorem lR_len (wd hg pc pg pk pf : V) : (lR wd hg pc pg pk pf).length < 1000 := by show 6 < 1000; decide
structure LTxt (K : PySem.W.Frag) (mg : Str → Option Value) (C : Addr) : Prop where
  cl : Cls K C
  nW : NoAttr K C "wide"
  nH : NoAttr K C "high"
  nC : NoAttr K C "costs"
  nG : NoAttr K C "goals"
  nK : NoAttr K C "crowd"
  nF : NoAttr K C "field"
  gC : mg "Land" = some (.ref C)
def gI (g : Ge07.House) : List Nat := g.map.goals.map (ix g.map.w)
/-- the crowd, by spots -/
abbrev crI (g : Ge07.House) : List OneI := toI g.map.w g.crowd
def LandAt (C CC : Addr) : LandP := fun H a g ft => ∃ dx pc pg pk ps pf, ft = [a, pc, pg, pk, ps, pf] ∧ ft.Nodup ∧ H a = some (.ins C dx (lR (.int g.map.w) (.int g.map.h) (.ref pc) (.ref pg) (.ref pk) (.ref pf))) ∧
  H pc = some (.lst (nI g.map.costs)) ∧ H pg = some (.lst (nI (gI g))) ∧ CrowdAt CC H pk ps (crI g) g.given ∧ H pf = some (.lst (fV (Ge07.field g.map))) ∧ WF g
theorem landOk (C CC : Addr) : LandOk (LandAt C CC) where
  frame := fun {H H' a g ft} h e => by
    obtain ⟨dx, pc, pg, pk, ps, pf, rfl, nd, h1, h2, h3, h4, h5, wf⟩ := h
    refine ⟨dx, pc, pg, pk, ps, pf, rfl, nd, (e a (by simp)).trans h1, (e pc (by simp)).trans h2, (e pg (by simp)).trans h3, h4.to (e pk (by simp)) (e ps (by simp)), (e pf (by simp)).trans h5, wf⟩
  there := fun {H a g ft} h b hb => by
    obtain ⟨dx, pc, pg, pk, ps, pf, rfl, nd, h1, h2, h3, ⟨⟨dk, h4⟩, h6⟩, h5, wf⟩ := h
    simp only [List.mem_cons, List.not_mem_nil, or_false] at hb
    rcases hb with rfl | rfl | rfl | rfl | rfl | rfl
    · exact ⟨_, h1, (fun _ z => by cases z), fun _ _ z => by cases z⟩
    · exact ⟨_, h2, (fun _ z => by cases z), fun _ _ z => by cases z⟩
    · exact ⟨_, h3, (fun _ z => by cases z), fun _ _ z => by cases z⟩
    · exact ⟨_, h4, (fun _ z => by cases z), fun _ _ z => by cases z⟩
    · exact ⟨_, h6, (fun _ z => by cases z), fun _ _ z => by cases z⟩
    · exact ⟨_, h5, (fun _ z => by cases z), fun _ _ z => by cases z⟩
  self := fun {H a g ft} h => by
    obtain ⟨dx, pc, pg, pk, ps, pf, rfl, _⟩ := h
    exact List.mem_cons_self
/-! ### spot_of -/
abbrev sSpotOf : Stmt := inClass sLand 13
section
variable {P : Program} {w : World} {K : PySem.W.Frag} {mg : Str → Option Value} {base : Heap} {C CC : Addr}
/-- a place's spot, or None -/
def spotV (m : Ge07.Map) (x y : Nat) : V := if Ge07.inside m (x, y) = true then .int ((ix m.w (x, y) : Nat) : Int) else .non
def spSpotOf (C CC : Addr) : Sp := fun vs H Q _ => ∃ (a pp : Addr) (g : Ge07.House) (ft : List Addr) (x y : Nat), vs = [.ref a, .ref pp] ∧ LandAt C CC H a g ft ∧ H pp = some (.tup [.int x, .int y]) ∧ Q (spotV g.map x y) H
theorem scSpotOf : FnScope ["self", "place", "column", "row"] ["self", "place"] (defScope sSpotOf) := ⟨rfl, rfl, rfl, by decide +kernel, rfl, by decide +kernel, by decide +kernel⟩
theorem ok_spotOf {f : Addr} {fd : FuncData} {k : Nat} (F : Fun K "spot_of" "Land.spot_of" sSpotOf f fd) (T : LTxt K mg C) : FnOk P w K mg base CX0 (k + 1) f fd ["self", "place"] (spSpotOf C CC) := by
  have nd := scSpotOf.nd
  refine F.ok scSpotOf (fun vs H Q E h => ?_) (fun cdv A outer s H vs Q E hr h => ⟨_, pss_cons (ps_set (i := 2) nd rfl (.inl rfl) (pe_ix ix_tup (pv 1) pe_int (fun _ _ => rfl))) (pss_cons (ps_set (i := 3) nd rfl (.inl rfl) (pe_ix ix_tup (pv 1) pe_int (fun _ _ => rfl)))
    (pss_cons (ps_if (PW.pt (pw_or (pt_cmpR op_ge (pv 2) (pe_fld (pv 0) rfl) (nomark _)) (pw_or1 (pt_cmpR op_ge (pv 3) (pe_fld (pv 0) rfl) (nomark _))))) (pss_one (ps_ret pe_non)) pss_nil)
    (pss_one (ps_ret (pe_op op_add (pe_op op_mul (pv 3) (pe_fld (pv 0) rfl)) (pv 2)))))), ?_⟩)
  · obtain ⟨a, pp, g, ft, x, y, rfl, _⟩ := h
    rfl
  · obtain ⟨a, pp, g, ft, x, y, rfl, ⟨dx, pc, pg, pk, ps, pf, rfl, _, h1, _, _, _, _, wf⟩, hp, q⟩ := h
    refine ⟨_, rfl, pp, _, _, .int x, rfl, rfl, SqT.of hp, atI_nat (j := 0) rfl, _, rfl, pp, _, _, .int y, rfl, rfl, SqT.of hp, atI_nat (j := 1) rfl, ?_⟩
    refine ⟨_, rfl, _, rfl, a, C, dx, _, _, rfl, h1, T.cl, T.nW, lR_wide, _, _, rfl, rfl, _, rfl, ?_⟩
    by_cases c1 : x < g.map.w
    · refine if_f (decide_eq_false (by omega)) ⟨_, rfl, _, rfl, a, C, dx, _, _, rfl, h1, T.cl, T.nH, lR_high, _, _, rfl, rfl, _, rfl, ?_⟩
      by_cases c2 : y < g.map.h
      · refine if_f (decide_eq_false (by omega)) ?_
        have hh := wf.h12
        refine ⟨_, rfl, _, rfl, a, C, dx, _, _, rfl, h1, T.cl, T.nW, lR_wide, _, _, rfl, rfl, .inl ⟨by omega, by omega⟩, _, rfl, _, _, rfl, rfl, ?_⟩
        have e : spotV g.map x y = .int ((y : Int) * (g.map.w : Int) + (x : Int)) := by
          unfold spotV
          rw [if_pos (inside_iff.mpr ⟨c1, c2⟩)]
          show V.int ((y * g.map.w + x : Nat) : Int) = _
          rw [Int.natCast_add, Int.natCast_mul]
        rw [e] at q
        exact q
      · refine if_t (decide_eq_true (by omega)) ?_
        have e : spotV g.map x y = .non := if_neg (fun z => c2 (inside_iff.mp z).2)
        rw [e] at q
        exact q
    · refine if_t (decide_eq_true (by omega)) ?_
      have e : spotV g.map x y = .non := if_neg (fun z => c1 (inside_iff.mp z).1)
      rw [e] at q
      exact q
end
end Gf
set_option Elab.async false
set_option linter.all false
set_option maxRecDepth 100000
set_option maxHeartbeats 2000000
namespace Gf
open PySem PySem.Spec PyProof.Rows L2 LamX NdefX
theorem mapOf_gI {g : Ge07.House} (wf : WF g) : mapOf g.map.w g.map.h g.map.costs (gI g) = g.map := by
  unfold mapOf gI
  have e : (g.map.goals.map (ix g.map.w)).map (pl g.map.w) = g.map.goals := by
    rw [List.map_map]
    have : ∀ p ∈ g.map.goals, (pl g.map.w ∘ ix g.map.w) p = id p := fun p hp => pl_ix (inside_iff.mp (wf.goalsIn p hp)).1
    rw [List.map_congr_left this, List.map_id]
  rw [e]
theorem gI_lt {g : Ge07.House} (wf : WF g) : ∀ i ∈ gI g, i < g.map.w * g.map.h := fun i hi => by
  obtain ⟨p, hp, rfl⟩ := List.mem_map.mp hi
  obtain ⟨h1, h2⟩ := inside_iff.mp (wf.goalsIn p hp)
  exact ix_lt h1 h2
/-- all but the object at a and the tables stands -/
def Most (a : Addr) (H H' : Hp) : Prop := ∀ b o, H b = some o → b ≠ a → (∀ ps, o ≠ .tbl ps) → H' b = some o
/-- the land with whatever field -/
structure LRaw (C CC : Addr) (H : Hp) (a : Addr) (g : Ge07.House) (dx pc pg pk ps : Addr) (fv : V) : Prop where
  nd : [a, pc, pg, pk, ps].Nodup
  self : H a = some (.ins C dx (lR (.int g.map.w) (.int g.map.h) (.ref pc) (.ref pg) (.ref pk) fv))
  costs : H pc = some (.lst (nI g.map.costs))
  goals : H pg = some (.lst (nI (gI g)))
  crowd : CrowdAt CC H pk ps (crI g) g.given
  wf : WF g
/-! ### reckon -/
abbrev sReckon : Stmt := inClass sLand 16
section
variable {P : Program} {w : World} {K : PySem.W.Frag} {mg : Str → Option Value} {base : Heap} {C CC : Addr} {T : List (Addr × Str)}
def spReckon (C CC : Addr) (T : List (Addr × Str)) : Sp := fun vs H Q _ => ∃ (a : Addr) (g : Ge07.House) (dx pc pg pk ps : Addr) (fv : V), vs = [.ref a] ∧ LRaw C CC H a g dx pc pg pk ps fv ∧ Tabs T H ∧
  ∀ H' pf, LandAt C CC H' a g [a, pc, pg, pk, ps, pf] → H pf = none → Most a H H' → Tabs T H' → Q .non H'
theorem scReckon : FnScope ["self"] ["self"] (defScope sReckon) := ⟨rfl, rfl, rfl, by decide +kernel, rfl, by decide +kernel, by decide +kernel⟩
theorem ok_reckon {f fR : Addr} {fd fdR : FuncData} {k : Nat} (F : Fun K "reckon" "Land.reckon" sReckon f fd) (TL : LTxt K mg C)
    (GR : FnOk P w K mg base CX0 4 fR fdR ["wide", "high", "costs", "goals"] (spReckonF K T)) (bR : Binds K fdR ["wide", "high", "costs", "goals"] []) (mR : mg "reckon_field" = some (.ref fR)) (kR : PySem.W.keepIn K (.ref fR) = true) :
    FnOk P w K mg base CX0 (k + 5) f fd ["self"] (spReckon C CC T) := by
  refine F.ok scReckon (fun vs H Q E h => ?_) (fun cdv A outer s H vs Q E hr h => ?_)
  · obtain ⟨a, g, dx, pc, pg, pk, ps, fv, rfl, _⟩ := h
    rfl
  · have hr4 : Room 4 _ := hr.mono (show 4 ≤ k + 4 by omega)
    refine ⟨_, pss_one (ps_fld (pv 0) (pe_call GR hr4 rfl mR kR bR .nil pass0 (pa_cons (pe_fld (pv 0) rfl) (pa_cons (pe_fld (pv 0) rfl) (pa_cons (pe_fld (pv 0) rfl) (pa_cons (pe_fld (pv 0) rfl) pa_nil))))) rfl), ?_⟩
    obtain ⟨a, g, dx, pc, pg, pk, ps, fv, rfl, L, tb, q⟩ := h
    have h1 := L.self
    have wf := L.wf
    refine ⟨_, rfl, a, C, dx, _, _, rfl, h1, TL.cl, TL.nW, lR_wide, _, rfl, a, C, dx, _, _, rfl, h1, TL.cl, TL.nH, lR_high, _, rfl, a, C, dx, _, _, rfl, h1, TL.cl, TL.nC, lR_costs, _, rfl, a, C, dx, _, _, rfl, h1, TL.cl, TL.nG, lR_goals, ?_⟩
    refine ⟨g.map.w, g.map.h, pc, pg, g.map.costs, gI g, rfl, SqL.of L.costs, SqL.of L.goals, wf.len, wf.w0, wf.w12, wf.h12, gI_lt wf, (by unfold gI; rw [List.length_map]; exact wf.goals6), tb, fun H1 pf x1 t1 npf ef => ?_⟩
    have h1' : H1 a = some _ := x1 a _ h1 fun _ z => by cases z
    refine ⟨_, rfl, a, C, dx, _, rfl, h1', TL.cl, TL.nF, lR_len _ _ _ _ _ _, ?_⟩
    rw [lR_putF]
    have nd := L.nd
    simp only [List.nodup_cons, List.mem_cons, List.not_mem_nil, or_false, not_or] at nd
    obtain ⟨⟨n1, n2, n3, m1⟩, ⟨n4, n5, m2⟩, ⟨n6, m3⟩, m4, _⟩ := nd
    obtain ⟨⟨dk, hk1⟩, hk2⟩ := L.crowd
    have fa : pf ≠ a := fun z => by rw [z, h1] at npf; cases npf
    have fc : pf ≠ pc := fun z => by rw [z, L.costs] at npf; cases npf
    have fg : pf ≠ pg := fun z => by rw [z, L.goals] at npf; cases npf
    have fk : pf ≠ pk := fun z => by rw [z, hk1] at npf; cases npf
    have fs : pf ≠ ps := fun z => by rw [z, hk2] at npf; cases npf
    refine q _ pf ⟨dx, pc, pg, pk, ps, pf, rfl, ?_, upd_same, ?_, ?_, ⟨⟨dk, ?_⟩, ?_⟩, ?_, wf⟩ npf (fun b o e n nt => ?_) (tabs_upd t1 h1' (fun _ z => by cases z) (fun _ z => by cases z))
    · simp only [List.nodup_cons, List.mem_cons, List.not_mem_nil, or_false, not_or]
      exact ⟨⟨n1, n2, n3, m1, fa.symm⟩, ⟨n4, n5, m2, fc.symm⟩, ⟨n6, m3, fg.symm⟩, ⟨m4, fk.symm⟩, fs.symm, not_false, List.nodup_nil⟩
    · rw [upd_ne (fun z => n1 z.symm)]
      exact x1 _ _ L.costs fun _ z => by cases z
    · rw [upd_ne (fun z => n2 z.symm)]
      exact x1 _ _ L.goals fun _ z => by cases z
    · rw [upd_ne (fun z => n3 z.symm)]
      exact x1 _ _ hk1 fun _ z => by cases z
    · rw [upd_ne (fun z => m1 z.symm)]
      exact x1 _ _ hk2 fun _ z => by cases z
    · rw [upd_ne fa, ef, mapOf_gI wf]
    · rw [upd_ne n]
      exact x1 b o e nt
/-! ### count_near -/
abbrev sCountNear : Stmt := inClass sLand 17
def nearN (m : Ge07.Map) : Nat := ((Ge07.field m).filter fun d => d.isSome).length
def spCountNear (C CC : Addr) : Sp := fun vs H Q _ => ∃ (a : Addr) (g : Ge07.House) (ft : List Addr), vs = [.ref a] ∧ LandAt C CC H a g ft ∧ ∀ H', Same H H' → Q (.int (nearN g.map : Nat)) H'
abbrev nCountNear : List Str := ["self", "far"]
theorem scCountNear : FnScope nCountNear ["self"] (defScope sCountNear) := ⟨rfl, rfl, rfl, by decide +kernel, rfl, by decide +kernel, by decide +kernel⟩
theorem ok_countNear {f : Addr} {fd : FuncData} {k : Nat} (F : Fun K "count_near" "Land.count_near" sCountNear f fd) (TL : LTxt K mg C) (mL : mg "len" = none) : FnOk P w K mg base CX0 (k + 1) f fd ["self"] (spCountNear C CC) := by
  have nd := scCountNear.nd
  refine F.ok scCountNear (fun vs H Q E h => ?_) (fun cdv A outer s H vs Q E hr h => ⟨_, pss_one (ps_ret (pe_callB call_len_seq (by rfl) mL PySem.boot_len (pa_cons
    (pe_lc (own := [("far", 1)]) (g := gName 1) rfl nd (pi_list (pe_fld (pv 0) rfl)) (blkOk_by (N := nCountNear) (sc := defScope sCountNear) (by decide +kernel)) (fun _ _ _ _ _ => pg_name (i := 1) nd rfl (Or.inl rfl)) (fun _ _ _ _ _ => pts_one (pt_cmpR op_notN (pv 1) pe_non (nomark _))) (fun _ _ _ _ _ => pv 1)) pa_nil))), ?_⟩)
  · obtain ⟨a, g, ft, rfl, _⟩ := h
    rfl
  · obtain ⟨a, g, ft, rfl, ⟨dx, pc, pg, pk, ps, pf, rfl, _, h1, _, _, _, h5, wf⟩, q⟩ := h
    have hlen : (Ge07.field g.map).length ≤ 144 := by
      rw [field_len wf.w0]
      exact Nat.mul_le_mul wf.w12 wf.h12
    refine ⟨_, rfl, a, C, dx, _, _, rfl, h1, TL.cl, TL.nF, lR_field, pf, rfl, ⟨_, SqL.of h5⟩, fun D nD => lc_list (K := K) (a := pf) (xs := fV (Ge07.field g.map)) (fun i H' => Same H H' ∧ H' D = some (.lst (fV (((Ge07.field g.map).take i).filter fun d => d.isSome)))) ⟨same_upd nD, upd_same⟩ (fun i H' _ z => z.1.seq (SqL.of h5)) ?_ ?_⟩
    · rintro i x H' hi ⟨s1, e1⟩
      unfold fV at hi
      rw [List.getElem?_map] at hi
      obtain ⟨d, hd, rfl⟩ := Option.map_eq_some_iff.mp hi
      have step : (((Ge07.field g.map).take (i + 1)).filter fun d => d.isSome) = (((Ge07.field g.map).take i).filter fun d => d.isSome) ++ ([d].filter fun d => d.isSome) := by
        rw [take_next hd, List.filter_append]
      refine ⟨rfl, _, rfl, rfl, _, rfl, ?_⟩
      cases d with
      | none =>
        refine if_f rfl ⟨s1, ?_⟩
        rw [step, e1]
        show _ = some (HO.lst (fV (_ ++ [])))
        rw [List.append_nil]
      | some d =>
        refine if_t rfl ⟨_, rfl, _, e1, ?_, fun b o e => ?_, ?_⟩
        · rw [fV_len]
          refine small1000 (Nat.le_trans (List.length_filter_le _ _) ?_)
          rw [List.length_take]
          omega
        · rw [upd_ne (ne_of_none e nD)]
          exact s1 b o e
        · rw [upd_same, step]
          show _ = some (HO.lst (fV (_ ++ [some d])))
          unfold fV
          rw [List.map_append]
          rfl
    · rintro H1 ⟨s1, e1⟩
      rw [fV_len, List.take_length] at e1
      refine ⟨D, _, rfl, .inl (SqL.of e1), ?_⟩
      have z := q H1 s1
      rw [fV_len]
      exact z
end
end Gf
set_option Elab.async false
set_option linter.all false
set_option maxRecDepth 100000
set_option maxHeartbeats 2000000
namespace Gf
open PySem PySem.Spec PyProof.Rows L2 LamX NdefX
theorem stood_at {g : Ge07.House} (wf : WF g) {p : Ge07.Place} (hp : Ge07.inside g.map p = true) : stoodI (crI g) (ix g.map.w p) = g.crowd.any fun a => a.2 == p := (any_I wf.crowdIn hp).symm
section
variable {P : Program} {w : World} {K : PySem.W.Frag} {mg : Str → Option Value} {base : Heap} {C CC : Addr} {T : List (Addr × Str)}
/-! ### a call's answer -/
/-- what is wanted behind a call c on the land at a, from H -/
def Done (C CC : Addr) (T : List (Addr × Str)) (H : Hp) (a : Addr) (g : Ge07.House) (ft : List Addr) (c : Ge07.Call) (Q : VK) : Prop :=
  ∀ (H' : Hp) (p : Addr) (ft' : List Addr), LandAt C CC H' a (Ge07.step g c).1 ft' → (∀ b ∈ ft', b ∈ ft ∨ Fresh H b) → (∀ b o, H b = some o → b ∉ ft → (∀ ps, o ≠ .tbl ps) → H' b = some o) → Tabs T H' → Fresh H p →
    H' p = some (.lst ((Ge07.step g c).2.map V.int)) → Q (.ref p) H'
theorem Done.same {H H1 : Hp} {a p : Addr} {g : Ge07.House} {ft : List Addr} {c : Ge07.Call} {Q : VK} {ans : List Int} (D : Done C CC T H a g ft c Q) (L : LandAt C CC H a g ft) (tb : Tabs T H) (s1 : Same H H1) (np : H1 p = none) (e : Ge07.step g c = (g, ans)) :
    Q (.ref p) (upd H1 p (.lst (ans.map V.int))) := by
  have s2 := s1.trans (same_upd (o := .lst (ans.map V.int)) np)
  refine D _ p ft ?_ (fun b hb => .inl hb) (fun b o q _ _ => s2 b o q) (tb.ext s2) (fresh_of (s1.free np)) ?_
  · rw [e]
    refine (landOk C CC).frame L fun b hb => ?_
    obtain ⟨o, q, _⟩ := (landOk C CC).there L b hb
    rw [s2 b o q, q]
  · rw [e, upd_same]
theorem Done.changed {H H2 H3 : Hp} {a p : Addr} {g g' : Ge07.House} {ft ft' : List Addr} {c : Ge07.Call} {Q : VK} {ans : List Int} (D : Done C CC T H a g ft c Q) (L : LandAt C CC H2 a g' ft') (hft : ∀ b ∈ ft', b ∈ ft ∨ Fresh H b)
    (kp : ∀ b o, H b = some o → b ∉ ft → (∀ ps, o ≠ .tbl ps) → H2 b = some o) (old : ∀ b ∈ ft, ∃ o, H2 b = some o) (tb : Tabs T H2) (s3 : Same H2 H3) (np : H3 p = none) (e : Ge07.step g c = (g', ans)) :
    Q (.ref p) (upd H3 p (.lst (ans.map V.int))) := by
  have s2 := s3.trans (same_upd (o := .lst (ans.map V.int)) np)
  refine D _ p ft' ?_ hft (fun b o q n nt => s2 b o (kp b o q n nt)) (tb.ext s2) (fun o q => ?_) ?_
  · rw [e]
    refine (landOk C CC).frame L fun b hb => ?_
    obtain ⟨o, q, _⟩ := (landOk C CC).there L b hb
    rw [s2 b o q, q]
  · by_cases m : p ∈ ft
    · obtain ⟨o', q'⟩ := old p m
      rw [s3 p o' q'] at np
      cases np
    · cases o with
      | tbl ps => exact ⟨ps, rfl⟩
      | _ =>
        rw [s3 p _ (kp p _ q m (fun _ z => by cases z))] at np
        cases np
  · rw [e, upd_same]
end
end Gf
set_option Elab.async false
set_option linter.all false
set_option maxRecDepth 100000
set_option maxHeartbeats 2000000
namespace Gf
open PySem PySem.Spec PyProof.Rows L2 LamX NdefX
/-! ### the constants -/
structure Consts (mg : Str → Option Value) : Prop where
  dear : ∃ t, mg "DEAREST" = some (.int 99 t)
  side : ∃ t, mg "LONGEST_SIDE" = some (.int 12 t)
  most : ∃ t, mg "MOST_GOALS" = some (.int 6 t)
  figs : ∃ t, mg "MOST_FIGURES" = some (.int 12 t)
  stps : ∃ t, mg "MOST_STEPS" = some (.int 60 t)
  bad : ∃ t, mg "BAD_NUMBER" = some (.int (-1) t)
  notT : ∃ t, mg "NOT_THERE" = some (.int (-2) t)
  taken : ∃ t, mg "TAKEN" = some (.int (-4) t)
  many : ∃ t, mg "TOO_MANY" = some (.int (-5) t)
  nowh : ∃ t, mg "NOWHERE" = some (.int (-6) t)
  atg : ∃ t, mg "AT_GOAL" = some (.int (-7) t)
theorem rel_int (i : Int) (t : Tok) : RelV (.int i) (.int i t) := ⟨t, rfl⟩
/-- the methods of Land that others call -/
structure LMeth (P : Program) (w : World) (K : PySem.W.Frag) (mg : Str → Option Value) (base : Heap) (C CC : Addr) (T : List (Addr × Str)) (fS fSt fR fN : Addr) (fdS fdSt fdR fdN : FuncData) : Prop where
  tk : KTxt K mg CC
  gS : FnOk P w K mg base CX0 1 fS fdS ["self", "place"] (spSpotOf C CC)
  bS : Binds K fdS ["self", "place"] []
  mS : Meth K C "spot_of" fS
  gSt : FnOk P w K mg base CX0 1 fSt fdSt ["self", "spot"] (spStandsOn CC)
  bSt : Binds K fdSt ["self", "spot"] []
  mSt : Meth K CC "stands_on" fSt
  gR : FnOk P w K mg base CX0 5 fR fdR ["self"] (spReckon C CC T)
  bR : Binds K fdR ["self"] []
  mR : Meth K C "reckon" fR
  gN : FnOk P w K mg base CX0 1 fN fdN ["self"] (spCountNear C CC)
  bN : Binds K fdN ["self"] []
  mN : Meth K C "count_near" fN
/-! ### set_cost -/
abbrev sSetCost : Stmt := inClass sLand 2
theorem nI_set (l : List Nat) (i c : Nat) : (nI l).set i (.int (c : Int)) = nI (l.set i c) := by
  unfold nI
  rw [List.map_set]
section
variable {P : Program} {w : World} {K : PySem.W.Frag} {mg : Str → Option Value} {base : Heap} {C CC : Addr} {T : List (Addr × Str)} {fS fSt fR fN : Addr} {fdS fdSt fdR fdN : FuncData}
def spSetCost (C CC : Addr) (T : List (Addr × Str)) : Sp := fun vs H Q _ => ∃ (a pp : Addr) (g : Ge07.House) (ft : List Addr) (x y c : Nat), vs = [.ref a, .ref pp, .int c] ∧ LandAt C CC H a g ft ∧ H pp = some (.tup [.int x, .int y]) ∧ Tabs T H ∧ Done C CC T H a g ft (.set (x, y) c) Q
theorem scSetCost : FnScope ["self", "place", "cost", "spot"] ["self", "place", "cost"] (defScope sSetCost) := ⟨rfl, rfl, rfl, by decide +kernel, rfl, by decide +kernel, by decide +kernel⟩
theorem ok_setCost {f : Addr} {fd : FuncData} {k : Nat} (F : Fun K "set_cost" "Land.set_cost" sSetCost f fd) (TL : LTxt K mg C) (CO : Consts mg) (M : LMeth P w K mg base C CC T fS fSt fR fN fdS fdSt fdR fdN) :
    FnOk P w K mg base CX0 (k + 6) f fd ["self", "place", "cost"] (spSetCost C CC T) := by
  obtain ⟨t1, c1⟩ := CO.dear
  obtain ⟨t2, c2⟩ := CO.bad
  obtain ⟨t3, c3⟩ := CO.notT
  obtain ⟨t4, c4⟩ := CO.taken
  have nd := scSetCost.nd
  refine F.ok scSetCost (fun vs H Q E h => ?_) (fun cdv A outer s H vs Q E hr h => ?_)
  · obtain ⟨a, pp, g, ft, x, y, c, rfl, _⟩ := h
    rfl
  · have hr1 : Room 1 _ := hr.mono (show 1 ≤ k + 5 by omega)
    have hr5 : Room 5 _ := hr.mono (show 5 ≤ k + 5 by omega)
    refine ⟨_, pss_cons (ps_if (pt_cmpR op_gt (pv 2) (pe_glob rfl c1 (rel_int _ _)) (nomark _)) (pss_one (ps_ret (pe_lst (pa_cons (pe_glob rfl c2 (rel_int _ _)) pa_nil)))) pss_nil)
      (pss_cons (ps_set (i := 3) nd rfl (.inl rfl) (pe_meth (pv 0) TL.cl M.mS M.gS hr1 M.bS .nil pass0 (pa_cons (pv 1) pa_nil)))
      (pss_cons (ps_if (pt_cmpR op_isN (pv 3) pe_non (nomark _)) (pss_one (ps_ret (pe_lst (pa_cons (pe_glob rfl c3 (rel_int _ _)) pa_nil)))) pss_nil)
      (pss_cons (ps_if (PW.pt (pw_and (pt_cmpR op_eq (pv 2) pe_int (nomark _)) (pw_and1 (pt_val (pe_meth (pe_fld (pv 0) rfl) M.tk.cl M.mSt M.gSt hr1 M.bSt .nil pass0 (pa_cons (pv 3) pa_nil)))))) (pss_one (ps_ret (pe_lst (pa_cons (pe_glob rfl c4 (rel_int _ _)) pa_nil)))) pss_nil)
      (pss_cons (ps_asg (pv 2) (pg_sub (pe_fld (pv 0) rfl) (pv 3) set_list))
      (pss_cons (ps_expr (pe_meth0 (pv 0) TL.cl M.mR M.gR hr5 M.bR .nil pass0))
      (pss_one (ps_ret (pe_lst (pa_cons (pe_meth0 (pv 0) TL.cl M.mN M.gN hr1 M.bN .nil pass0) pa_nil))))))))), ?_⟩
    obtain ⟨a, pp, g, ft, x, y, c, rfl, L, hp, tb, D⟩ := h
    have L0 := L
    obtain ⟨dx, pc, pg, pk, ps, pf, eft, ndf, h1, h2, h3, h4, h5, wf⟩ := L
    obtain ⟨⟨dk, hk1⟩, hk2⟩ := id h4
    -- if cost > DEAREST
    refine ⟨_, rfl, _, _, rfl, rfl, _, rfl, ?_⟩
    by_cases b1 : 99 < c
    · refine if_t (decide_eq_true (by omega)) ⟨(by show 1 ≤ sizeLine; decide), fun p np => ?_⟩
      exact D.same (ans := [-1]) L0 tb (Same.refl H) np (if_pos b1)
    refine if_f (decide_eq_false (by omega)) ?_
    -- spot = self.spot_of(place)
    refine ⟨_, rfl, a, dx, _, rfl, h1, lR_no (by decide +kernel), _, rfl, a, pp, g, ft, x, y, rfl, L0, hp, ?_⟩
    refine ⟨_, rfl, rfl, _, rfl, ?_⟩
    by_cases hin : Ge07.inside g.map (x, y) = true
    · have es : spotV g.map x y = .int ((ix g.map.w (x, y) : Nat) : Int) := if_pos hin
      have hs : ix g.map.w (x, y) < g.map.w * g.map.h := ix_lt (inside_iff.mp hin).1 (inside_iff.mp hin).2
      rw [es]
      refine if_f rfl ?_
      have hin' : ¬ Ge07.inside g.map (x, y) = false := fun z => by rw [hin] at z; cases z
      -- the rest, from a heap with more in it
      have go : ∀ H1, Same H H1 → ¬ (c = 0 ∧ (g.crowd.any fun a => a.2 == (x, y)) = true) → tSeq (tAsg (tVar 2) (gSub (tFld K (tVar 0) "costs") (tVar 3) rSetL)) (tSeq (tDrop (tMeth C "reckon" (spReckon C CC T) [] E0 (tVar 0) tNil)) (tRet (tLst (tCons (tMeth C "count_near" (spCountNear C CC) [] E0 (tVar 0) tNil) tNil))))
          { nx := fun _ H' => Q .non H', rt := Q } [some (.ref a), some (.ref pp), some (.int c), some (.int ((ix g.map.w (x, y) : Nat) : Int))] H1 := by
        intro H1 s1 nst
        have a1 := s1 _ _ h1
        have a2 := s1 _ _ h2
        refine ⟨_, rfl, _, rfl, a, C, dx, _, _, rfl, a1, TL.cl, TL.nC, lR_costs, _, rfl, pc, _, _, ix g.map.w (x, y), rfl, rfl, a2, ixN_at (by rw [nI_len, wf.len]; exact hs), ?_⟩
        rw [nI_set]
        rw [eft] at ndf
        have ndf' := ndf
        simp only [List.nodup_cons, List.mem_cons, List.not_mem_nil, or_false, not_or] at ndf'
        obtain ⟨⟨n1, n2, n3, m1, n4⟩, ⟨n5, n6, m2, n7⟩, ⟨n8, m3, n9⟩, ⟨m4, n10⟩, m5, _⟩ := ndf'
        have est : Ge07.step g (.set (x, y) c) = ({ g with map := Ge07.setCost g.map (x, y) c }, Ge07.ints [nearN (Ge07.setCost g.map (x, y) c)]) := by
          show (if 99 < c then (g, [-1]) else if Ge07.inside g.map (x, y) = false then (g, [-2]) else if c = 0 ∧ (g.crowd.any fun a => a.2 == (x, y)) = true then (g, [-4]) else _) = _
          rw [if_neg b1, if_neg hin', if_neg nst]
          rfl
        have wf' : WF { g with map := Ge07.setCost g.map (x, y) c } := by
          have z := wf_step wf (.set (x, y) c)
          rw [est] at z
          exact z
        have tb1 : Tabs T (upd H1 pc (.lst (nI (g.map.costs.set (ix g.map.w (x, y)) c)))) := tabs_upd (tb.ext s1) a2 (fun _ z => by cases z) (fun _ z => by cases z)
        have LR : LRaw C CC (upd H1 pc (.lst (nI (g.map.costs.set (ix g.map.w (x, y)) c)))) a { g with map := Ge07.setCost g.map (x, y) c } dx pc pg pk ps (.ref pf) := by
          refine ⟨?_, ?_, upd_same, ?_, ⟨⟨dk, ?_⟩, ?_⟩, wf'⟩
          · simp only [List.nodup_cons, List.mem_cons, List.not_mem_nil, or_false, not_or]
            exact ⟨⟨n1, n2, n3, m1⟩, ⟨n5, n6, m2⟩, ⟨n8, m3⟩, m4, not_false, List.nodup_nil⟩
          · rw [upd_ne n1]
            exact a1
          · rw [upd_ne (fun z => n5 z.symm)]
            exact s1 _ _ h3
          · rw [upd_ne (fun z => n6 z.symm)]
            exact s1 _ _ hk1
          · rw [upd_ne (fun z => m2 z.symm)]
            exact s1 _ _ hk2
        -- self.reckon()
        refine ⟨_, rfl, a, dx, _, rfl, LR.self, lR_no (by decide +kernel), a, _, dx, pc, pg, pk, ps, _, rfl, LR, tb1, fun H2 pf2 L2 npf2 m2' t2 => ?_⟩
        obtain ⟨dx2, pc2, pg2, pk2, ps2, pf2', e2, _, q1, _⟩ := id L2
        -- return [self.count_near()]
        refine ⟨_, rfl, a, dx2, _, rfl, q1, lR_no (by decide +kernel), a, _, _, rfl, L2, fun H3 s3 => ⟨(by show 1 ≤ sizeLine; decide), fun p np => ?_⟩⟩
        refine D.changed (g' := { g with map := Ge07.setCost g.map (x, y) c }) (ans := [((nearN (Ge07.setCost g.map (x, y) c) : Nat) : Int)]) L2 (fun b hb => ?_) (fun b o e nb nt => ?_) (fun b hb => ?_) t2 s3 np est
        · simp only [List.mem_cons, List.not_mem_nil, or_false] at hb
          rw [eft]
          rcases hb with rfl | rfl | rfl | rfl | rfl | rfl
          · exact .inl (by simp)
          · exact .inl (by simp)
          · exact .inl (by simp)
          · exact .inl (by simp)
          · exact .inl (by simp)
          · refine .inr (fresh_of ?_)
            have z : H1 b = none := by
              by_cases e : b = pc
              · rw [e, upd_same] at npf2
                cases npf2
              · rw [upd_ne e] at npf2
                exact npf2
            exact s1.free z
        · rw [eft] at nb
          simp only [List.mem_cons, List.not_mem_nil, or_false, not_or] at nb
          refine m2' b o ?_ nb.1 nt
          rw [upd_ne nb.2.1]
          exact s1 b o e
        · rw [eft] at hb
          simp only [List.mem_cons, List.not_mem_nil, or_false] at hb
          rcases hb with rfl | rfl | rfl | rfl | rfl | rfl
          · exact ⟨_, q1⟩
          · exact ⟨_, m2' b _ upd_same (fun z => n1 z.symm) fun _ z => by cases z⟩
          · exact ⟨_, m2' b _ LR.goals (fun z => n2 z.symm) fun _ z => by cases z⟩
          · exact ⟨_, m2' b _ (by rw [upd_ne (fun z => n6 z.symm)]; exact s1 _ _ hk1) (fun z => n3 z.symm) fun _ z => by cases z⟩
          · exact ⟨_, m2' b _ (by rw [upd_ne (fun z => m2 z.symm)]; exact s1 _ _ hk2) (fun z => m1 z.symm) fun _ z => by cases z⟩
          · refine ⟨_, m2' b (.lst (fV (Ge07.field g.map))) ?_ (fun z => n4 z.symm) fun _ z => by cases z⟩
            rw [upd_ne (fun z => n7 z.symm)]
            exact s1 _ _ h5
      -- if cost == 0 and self.is_stood_on(spot)
      refine ⟨_, rfl, rfl, _, rfl, ?_⟩
      by_cases c0 : c = 0
      · refine if_t (by rw [c0]; exact decide_eq_true rfl) ⟨_, rfl, a, C, dx, _, _, rfl, h1, TL.cl, TL.nK, lR_crowd, pk, dk, _, rfl, hk1, kR_no (by decide +kernel), _, rfl, pk, ps, crI g, g.given, ix g.map.w (x, y), rfl, h4, fun H1 s1 => ⟨_, rfl, ?_⟩⟩
        cases hst : stoodI (crI g) (ix g.map.w (x, y)) with
        | true =>
          refine if_t rfl ⟨(by show 1 ≤ sizeLine; decide), fun p np => ?_⟩
          refine D.same (ans := [-4]) L0 tb s1 np ?_
          show (if 99 < c then (g, [-1]) else if Ge07.inside g.map (x, y) = false then (g, [-2]) else if c = 0 ∧ (g.crowd.any fun a => a.2 == (x, y)) = true then (g, [-4]) else _) = _
          rw [if_neg b1, if_neg hin', if_pos ⟨c0, by rw [← stood_at wf hin]; exact hst⟩]
        | false =>
          refine if_f rfl (go H1 s1 fun z => ?_)
          rw [← stood_at wf hin, hst] at z
          cases z.2
      · refine if_f (decide_eq_false fun z => c0 (by injection z with z; omega)) (go H (Same.refl H) fun z => c0 z.1)
    · have es : spotV g.map x y = .non := if_neg hin
      rw [es]
      refine if_t rfl ⟨(by show 1 ≤ sizeLine; decide), fun p np => ?_⟩
      refine D.same (ans := [-2]) L0 tb (Same.refl H) np ?_
      show (if 99 < c then (g, [-1]) else if Ge07.inside g.map (x, y) = false then (g, [-2]) else _) = _
      rw [if_neg b1, if_pos]
      cases q : Ge07.inside g.map (x, y) with
      | false => rfl
      | true => exact absurd q hin
end
end Gf
set_option Elab.async false
set_option linter.all false
set_option maxRecDepth 100000
set_option maxHeartbeats 2000000
namespace Gf
open PySem PySem.Spec PyProof.Rows L2 LamX NdefX
section
variable {P : Program} {w : World} {K : PySem.W.Frag} {mg : Str → Option Value} {base : Heap} {C CC : Addr} {T : List (Addr × Str)} {fS fSt fR fN : Addr} {fdS fdSt fdR fdN : FuncData}
/-- self.reckon(); return [self.count_near()] -/
theorem tail_ok {H H1 : Hp} {a dx pc pg pk ps pf : Addr} {g g' : Ge07.House} {ft : List Addr} {c : Ge07.Call} {Q : VK} {N : L2.St → Hp → Prop} {σ : L2.St} (hσ : σ[0]? = some (some (.ref a))) (eft : ft = [a, pc, pg, pk, ps, pf]) (D : Done C CC T H a g ft c Q)
    (LR : LRaw C CC H1 a g' dx pc pg pk ps (.ref pf)) (npf : ∃ o, H1 pf = some o ∧ ∀ ps, o ≠ .tbl ps) (nfa : pf ≠ a) (tb1 : Tabs T H1) (kp1 : ∀ b o, H b = some o → b ∉ ft → (∀ ps, o ≠ .tbl ps) → H1 b = some o) (fr1 : ∀ b, H1 b = none → Fresh H b)
    (est : Ge07.step g c = (g', Ge07.ints [nearN g'.map])) :
    tSeq (tDrop (tMeth C "reckon" (spReckon C CC T) [] E0 (tVar 0) tNil)) (tRet (tLst (tCons (tMeth C "count_near" (spCountNear C CC) [] E0 (tVar 0) tNil) tNil))) { nx := N, rt := Q } σ H1 := by
  refine ⟨_, hσ, a, dx, _, rfl, LR.self, lR_no (by decide +kernel), a, _, dx, pc, pg, pk, ps, _, rfl, LR, tb1, fun H2 pf2 L2 npf2 m2 t2 => ?_⟩
  obtain ⟨dx2, pc2, pg2, pk2, ps2, pf2', e2, _, q1, _⟩ := id L2
  obtain ⟨⟨dk, hk1⟩, hk2⟩ := LR.crowd
  refine ⟨_, hσ, a, dx2, _, rfl, q1, lR_no (by decide +kernel), a, _, _, rfl, L2, fun H3 s3 => ⟨(by show 1 ≤ sizeLine; decide), fun p np => ?_⟩⟩
  have nd := LR.nd
  simp only [List.nodup_cons, List.mem_cons, List.not_mem_nil, or_false, not_or] at nd
  obtain ⟨⟨n1, n2, n3, m1⟩, _⟩ := nd
  refine D.changed (g' := g') (ans := [((nearN g'.map : Nat) : Int)]) L2 (fun b hb => ?_) (fun b o e nb nt => ?_) (fun b hb => ?_) t2 s3 np est
  · simp only [List.mem_cons, List.not_mem_nil, or_false] at hb
    rw [eft]
    rcases hb with rfl | rfl | rfl | rfl | rfl | rfl
    · exact .inl (by simp)
    · exact .inl (by simp)
    · exact .inl (by simp)
    · exact .inl (by simp)
    · exact .inl (by simp)
    · exact .inr (fr1 b npf2)
  · have nb' := nb
    rw [eft] at nb'
    simp only [List.mem_cons, List.not_mem_nil, or_false, not_or] at nb'
    exact m2 b o (kp1 b o e nb nt) nb'.1 nt
  · rw [eft] at hb
    simp only [List.mem_cons, List.not_mem_nil, or_false] at hb
    rcases hb with rfl | rfl | rfl | rfl | rfl | rfl
    · exact ⟨_, q1⟩
    · exact ⟨_, m2 b _ LR.costs (fun z => n1 z.symm) fun _ z => by cases z⟩
    · exact ⟨_, m2 b _ LR.goals (fun z => n2 z.symm) fun _ z => by cases z⟩
    · exact ⟨_, m2 b _ hk1 (fun z => n3 z.symm) fun _ z => by cases z⟩
    · exact ⟨_, m2 b _ hk2 (fun z => m1 z.symm) fun _ z => by cases z⟩
    · obtain ⟨o, eo, no⟩ := npf
      exact ⟨_, m2 b o eo nfa no⟩
theorem same_fresh {H : Hp} {p : Addr} {o : HO} {b : Addr} (h : upd H p o b = none) : Fresh H b := fresh_of (by
  by_cases e : b = p
  · rw [e, upd_same] at h
    cases h
  · rw [upd_ne e] at h
    exact h)
/-! ### add_goal -/
abbrev sAddGoal : Stmt := inClass sLand 3
theorem inV_nI (s : Nat) : ∀ l : List Nat, inV (.int (s : Int)) (nI l) = l.contains s
  | [] => rfl
  | a :: l => by
    have ih := inV_nI s l
    unfold inV nI at ih ⊢
    rw [List.map_cons, List.any_cons, ih, List.contains_cons]
    congr 1
    show ((a : Int) == (s : Int)) = (s == a)
    by_cases e : a = s
    · rw [e, beq_self_eq_true, beq_self_eq_true]
    · rw [beq_eq_false_iff_ne.mpr (fun z => e z.symm)]
      exact beq_eq_false_iff_ne.mpr fun z => e (by omega)
theorem flat_nI (l : List Nat) : (nI l).all flatV = true := by
  unfold nI
  rw [List.all_map]
  exact List.all_eq_true.mpr fun x _ => rfl
theorem gI_has {g : Ge07.House} (wf : WF g) {p : Ge07.Place} (hp : Ge07.inside g.map p = true) : (gI g).contains (ix g.map.w p) = g.map.goals.contains p := by
  have h2 := (inside_iff.mp hp).1
  have key : ix g.map.w p ∈ gI g ↔ p ∈ g.map.goals := by
    unfold gI
    constructor
    · intro h
      obtain ⟨q, hq, e⟩ := List.mem_map.mp h
      have h1 := (inside_iff.mp (wf.goalsIn q hq)).1
      rw [← pl_ix h2, ← e, pl_ix h1]
      exact hq
    · exact fun h => List.mem_map.mpr ⟨p, h, rfl⟩
  cases c : g.map.goals.contains p with
  | true => exact List.contains_iff_mem.mpr (key.mpr (List.contains_iff_mem.mp c))
  | false =>
    cases c2 : (gI g).contains (ix g.map.w p) with
    | false => rfl
    | true =>
      rw [List.contains_iff_mem.mpr (key.mp (List.contains_iff_mem.mp c2))] at c
      cases c
def spAddGoal (C CC : Addr) (T : List (Addr × Str)) : Sp := fun vs H Q _ => ∃ (a pp : Addr) (g : Ge07.House) (ft : List Addr) (x y : Nat), vs = [.ref a, .ref pp] ∧ LandAt C CC H a g ft ∧ H pp = some (.tup [.int x, .int y]) ∧ Tabs T H ∧ Done C CC T H a g ft (.goal (x, y)) Q
theorem scAddGoal : FnScope ["self", "place", "spot"] ["self", "place"] (defScope sAddGoal) := ⟨rfl, rfl, rfl, by decide +kernel, rfl, by decide +kernel, by decide +kernel⟩
theorem ok_addGoal {f : Addr} {fd : FuncData} {k : Nat} (F : Fun K "add_goal" "Land.add_goal" sAddGoal f fd) (TL : LTxt K mg C) (CO : Consts mg) (mL : mg "len" = none) (M : LMeth P w K mg base C CC T fS fSt fR fN fdS fdSt fdR fdN) :
    FnOk P w K mg base CX0 (k + 6) f fd ["self", "place"] (spAddGoal C CC T) := by
  obtain ⟨t1, c1⟩ := CO.notT
  obtain ⟨t2, c2⟩ := CO.taken
  obtain ⟨t3, c3⟩ := CO.most
  obtain ⟨t4, c4⟩ := CO.many
  have nd := scAddGoal.nd
  refine F.ok scAddGoal (fun vs H Q E h => ?_) (fun cdv A outer s H vs Q E hr h => ?_)
  · obtain ⟨a, pp, g, ft, x, y, rfl, _⟩ := h
    rfl
  · have hr1 : Room 1 _ := hr.mono (show 1 ≤ k + 5 by omega)
    have hr5 : Room 5 _ := hr.mono (show 5 ≤ k + 5 by omega)
    refine ⟨_, pss_cons (ps_set (i := 2) nd rfl (.inl rfl) (pe_meth (pv 0) TL.cl M.mS M.gS hr1 M.bS .nil pass0 (pa_cons (pv 1) pa_nil)))
      (pss_cons (ps_if (pt_cmpR op_isN (pv 2) pe_non (nomark _)) (pss_one (ps_ret (pe_lst (pa_cons (pe_glob rfl c1 (rel_int _ _)) pa_nil)))) pss_nil)
      (pss_cons (ps_if (pt_cmpR op_in_seq (pv 2) (pe_fld (pv 0) rfl) (by rfl)) (pss_one (ps_ret (pe_lst (pa_cons (pe_glob rfl c2 (rel_int _ _)) pa_nil)))) pss_nil)
      (pss_cons (ps_if (pt_cmpR op_ge (pe_callB call_len_seq (by rfl) mL PySem.boot_len (pa_cons (pe_fld (pv 0) rfl) pa_nil)) (pe_glob rfl c3 (rel_int _ _)) (nomark _)) (pss_one (ps_ret (pe_lst (pa_cons (pe_glob rfl c4 (rel_int _ _)) pa_nil)))) pss_nil)
      (pss_cons (ps_expr (pe_bm PySem.F.plainAttrs_list PySem.F.slot_list_append PySem.F.type_list_append mt_append (pe_fld (pv 0) rfl) (pa_cons (pv 2) pa_nil)))
      (pss_cons (ps_expr (pe_meth0 (pv 0) TL.cl M.mR M.gR hr5 M.bR .nil pass0))
      (pss_one (ps_ret (pe_lst (pa_cons (pe_meth0 (pv 0) TL.cl M.mN M.gN hr1 M.bN .nil pass0) pa_nil))))))))), ?_⟩
    obtain ⟨a, pp, g, ft, x, y, rfl, L, hp, tb, D⟩ := h
    have L0 := L
    obtain ⟨dx, pc, pg, pk, ps, pf, eft, ndf, h1, h2, h3, h4, h5, wf⟩ := L
    obtain ⟨⟨dk, hk1⟩, hk2⟩ := id h4
    refine ⟨_, rfl, a, dx, _, rfl, h1, lR_no (by decide +kernel), _, rfl, a, pp, g, ft, x, y, rfl, L0, hp, ?_⟩
    refine ⟨_, rfl, rfl, _, rfl, ?_⟩
    by_cases hin : Ge07.inside g.map (x, y) = true
    · have es : spotV g.map x y = .int ((ix g.map.w (x, y) : Nat) : Int) := if_pos hin
      have hin' : ¬ Ge07.inside g.map (x, y) = false := fun z => by rw [hin] at z; cases z
      rw [es]
      refine if_f rfl ?_
      refine ⟨_, rfl, _, rfl, a, C, dx, _, _, rfl, h1, TL.cl, TL.nG, lR_goals, pg, _, rfl, .inl (SqL.of h3), rfl, flat_nI _, _, rfl, ?_⟩
      show if inV (.int ((ix g.map.w (x, y) : Nat) : Int)) (nI (gI g)) = true then _ else _
      rw [inV_nI, gI_has wf hin]
      cases hc : g.map.goals.contains (x, y) with
      | true =>
        refine if_t rfl ⟨(by show 1 ≤ sizeLine; decide), fun p np => ?_⟩
        refine D.same (ans := [-4]) L0 tb (Same.refl H) np ?_
        show (if Ge07.inside g.map (x, y) = false then (g, [-2]) else if g.map.goals.contains (x, y) = true then (g, [-4]) else _) = _
        rw [if_neg hin', if_pos hc]
      | false =>
        have hc' : ¬ g.map.goals.contains (x, y) = true := fun z => by rw [hc] at z; cases z
        refine if_f rfl ⟨_, rfl, a, C, dx, _, _, rfl, h1, TL.cl, TL.nG, lR_goals, pg, _, rfl, .inl (SqL.of h3), _, _, rfl, rfl, _, rfl, ?_⟩
        have egl : (nI (gI g)).length = g.map.goals.length := by
          rw [nI_len]
          exact List.length_map _
        by_cases c6 : 6 ≤ g.map.goals.length
        · refine if_t (decide_eq_true (by rw [egl]; omega)) ⟨(by show 1 ≤ sizeLine; decide), fun p np => ?_⟩
          refine D.same (ans := [-5]) L0 tb (Same.refl H) np ?_
          show (if Ge07.inside g.map (x, y) = false then (g, [-2]) else if g.map.goals.contains (x, y) = true then (g, [-4]) else if 6 ≤ g.map.goals.length then (g, [-5]) else _) = _
          rw [if_neg hin', if_neg hc', if_pos c6]
        · refine if_f (decide_eq_false (by rw [egl]; omega)) ?_
          have est : Ge07.step g (.goal (x, y)) = ({ g with map := { g.map with goals := g.map.goals ++ [(x, y)] } }, Ge07.ints [nearN { g.map with goals := g.map.goals ++ [(x, y)] }]) := by
            show (if Ge07.inside g.map (x, y) = false then (g, [-2]) else if g.map.goals.contains (x, y) = true then (g, [-4]) else if 6 ≤ g.map.goals.length then (g, [-5]) else _) = _
            rw [if_neg hin', if_neg hc', if_neg c6]
            rfl
          have wf' : WF { g with map := { g.map with goals := g.map.goals ++ [(x, y)] } } := by
            have z := wf_step wf (.goal (x, y))
            rw [est] at z
            exact z
          have eg : gI { g with map := { g.map with goals := g.map.goals ++ [(x, y)] } } = gI g ++ [ix g.map.w (x, y)] := by
            unfold gI
            exact List.map_append
          refine ⟨_, rfl, a, C, dx, _, _, rfl, h1, TL.cl, TL.nG, lR_goals, .inl ⟨rfl, _, .inl (.inl h3)⟩, _, rfl, pg, _, _, rfl, rfl, h3, small4 (n := 6) (by rw [egl]; omega), ?_⟩
          have eapp : nI (gI g) ++ [V.int ((ix g.map.w (x, y) : Nat) : Int)] = nI (gI g ++ [ix g.map.w (x, y)]) := by rw [nI_app]; rfl
          rw [eapp]
          have ndf' := ndf
          rw [eft] at ndf'
          simp only [List.nodup_cons, List.mem_cons, List.not_mem_nil, or_false, not_or] at ndf'
          obtain ⟨⟨n1, n2, n3, m1, n4⟩, ⟨n5, n6, m2, n7⟩, ⟨n8, m3, n9⟩, ⟨m4, n10⟩, m5, _⟩ := ndf'
          refine tail_ok rfl eft D (dx := dx) (g' := { g with map := { g.map with goals := g.map.goals ++ [(x, y)] } }) ⟨?_, ?_, ?_, ?_, ⟨⟨dk, ?_⟩, ?_⟩, wf'⟩ ⟨.lst (fV (Ge07.field g.map)), ?_, fun _ z => by cases z⟩ (fun z => n4 z.symm) (tabs_upd tb h3 (fun _ z => by cases z) (fun _ z => by cases z)) (fun b o e nb nt => ?_) (fun b hb => same_fresh hb) est
          · simp only [List.nodup_cons, List.mem_cons, List.not_mem_nil, or_false, not_or]
            exact ⟨⟨n1, n2, n3, m1⟩, ⟨n5, n6, m2⟩, ⟨n8, m3⟩, m4, not_false, List.nodup_nil⟩
          · rw [upd_ne n2]
            exact h1
          · rw [upd_ne n5]
            exact h2
          · rw [upd_same, eg]
          · rw [upd_ne (fun z => n8 z.symm)]
            exact hk1
          · rw [upd_ne (fun z => m3 z.symm)]
            exact hk2
          · rw [upd_ne (fun z => n9 z.symm)]
            exact h5
          · rw [upd_ne (fun z => nb (by rw [eft, z]; simp))]
            exact e
    · have es : spotV g.map x y = .non := if_neg hin
      rw [es]
      refine if_t rfl ⟨(by show 1 ≤ sizeLine; decide), fun p np => ?_⟩
      refine D.same (ans := [-2]) L0 tb (Same.refl H) np ?_
      show (if Ge07.inside g.map (x, y) = false then (g, [-2]) else _) = _
      rw [if_pos]
      cases q : Ge07.inside g.map (x, y) with
      | false => rfl
      | true => exact absurd q hin
/-! ### drop_goal -/
abbrev sDropGoal : Stmt := inClass sLand 4
def spDropGoal (C CC : Addr) (T : List (Addr × Str)) : Sp := fun vs H Q _ => ∃ (a pp : Addr) (g : Ge07.House) (ft : List Addr) (x y : Nat), vs = [.ref a, .ref pp] ∧ LandAt C CC H a g ft ∧ H pp = some (.tup [.int x, .int y]) ∧ Tabs T H ∧ Done C CC T H a g ft (.noGoal (x, y)) Q
theorem scDropGoal : FnScope ["self", "place", "spot"] ["self", "place"] (defScope sDropGoal) := ⟨rfl, rfl, rfl, by decide +kernel, rfl, by decide +kernel, by decide +kernel⟩
/-- the first of those that are there but once -/
theorem first_at {l : List Nat} {s : Nat} (h : l.contains s = true) : ∃ j : Nat, l[j]? = some s ∧ ∀ m : Nat, m < j → l[m]? ≠ some s := by
  induction l with
  | nil => cases h
  | cons a l ih =>
    by_cases e : a = s
    · exact ⟨0, by rw [e]; rfl, fun m hm => by omega⟩
    · rw [List.contains_cons, beq_eq_false_iff_ne.mpr (fun z => e z.symm), Bool.false_or] at h
      obtain ⟨j, h1, h2⟩ := ih h
      refine ⟨j + 1, h1, fun m hm => ?_⟩
      cases m with
      | zero => exact fun z => e (Option.some.inj z)
      | succ m => exact h2 m (by omega)
theorem erase_filter : ∀ {l : List Nat} {s j : Nat}, l.Nodup → l[j]? = some s → l.eraseIdx j = l.filter fun q => q != s
  | [], _, _, _, h => by simp at h
  | a :: l, s, 0, nd, h => by
    have e : a = s := Option.some.inj h
    subst e
    rw [List.eraseIdx_cons_zero, List.filter_cons_of_neg (by simp)]
    have hn := (List.nodup_cons.mp nd).1
    symm
    rw [List.filter_eq_self]
    intro b hb
    exact bne_iff_ne.mpr fun z => hn (z ▸ hb)
  | a :: l, s, j + 1, nd, h => by
    have nd' := List.nodup_cons.mp nd
    have hm : s ∈ l := List.mem_of_getElem? (show l[j]? = some s from h)
    have e : a ≠ s := fun z => nd'.1 (z ▸ hm)
    rw [List.eraseIdx_cons_succ, erase_filter nd'.2 h, List.filter_cons_of_pos (p := fun q => q != s) (bne_iff_ne.mpr e)]
theorem gI_nd {g : Ge07.House} (wf : WF g) : (gI g).Nodup := by
  unfold gI List.Nodup
  rw [List.pairwise_map]
  refine List.Pairwise.imp_of_mem (fun {p q} hp hq hne z => hne ?_) wf.goalsNd
  rw [← pl_ix (inside_iff.mp (wf.goalsIn p hp)).1, z, pl_ix (inside_iff.mp (wf.goalsIn q hq)).1]
theorem gI_filter {g : Ge07.House} (wf : WF g) {p : Ge07.Place} (hp : Ge07.inside g.map p = true) : gI { g with map := { g.map with goals := g.map.goals.filter fun q => q != p } } = (gI g).filter fun q => q != ix g.map.w p := by
  show (g.map.goals.filter fun q => q != p).map (ix g.map.w) = (g.map.goals.map (ix g.map.w)).filter _
  rw [List.filter_map]
  congr 1
  apply List.filter_congr
  intro q hq
  show (q != p) = (ix g.map.w q != ix g.map.w p)
  by_cases e : q = p
  · rw [e, bne_self_eq_false, bne_self_eq_false]
  · rw [bne_iff_ne.mpr e]
    symm
    refine bne_iff_ne.mpr fun z => e ?_
    rw [← pl_ix (inside_iff.mp (wf.goalsIn q hq)).1, z, pl_ix (inside_iff.mp hp).1]
theorem iN_get {l : List Nat} {j s : Nat} : (iN l)[j]? = some (s : Int) ↔ l[j]? = some s := by
  unfold iN
  rw [List.getElem?_map]
  cases l[j]? with
  | none => exact ⟨fun h => (by cases h), fun h => (by cases h)⟩
  | some a =>
    show some (a : Int) = some (s : Int) ↔ some a = some s
    constructor
    · intro h
      have := Option.some.inj h
      exact congrArg some (by omega)
    · intro h
      cases h
      rfl
theorem iN_erase : ∀ (l : List Nat) (j : Nat), (iN l).eraseIdx j = iN (l.eraseIdx j)
  | [], _ => rfl
  | _ :: _, 0 => rfl
  | a :: l, j + 1 => congrArg ((a : Int) :: ·) (iN_erase l j)
theorem ok_dropGoal {f : Addr} {fd : FuncData} {k : Nat} (F : Fun K "drop_goal" "Land.drop_goal" sDropGoal f fd) (TL : LTxt K mg C) (CO : Consts mg) (M : LMeth P w K mg base C CC T fS fSt fR fN fdS fdSt fdR fdN) :
    FnOk P w K mg base CX0 (k + 6) f fd ["self", "place"] (spDropGoal C CC T) := by
  obtain ⟨t1, c1⟩ := CO.notT
  have nd := scDropGoal.nd
  refine F.ok scDropGoal (fun vs H Q E h => ?_) (fun cdv A outer s H vs Q E hr h => ?_)
  · obtain ⟨a, pp, g, ft, x, y, rfl, _⟩ := h
    rfl
  · have hr1 : Room 1 _ := hr.mono (show 1 ≤ k + 5 by omega)
    have hr5 : Room 5 _ := hr.mono (show 5 ≤ k + 5 by omega)
    refine ⟨_, pss_cons (ps_set (i := 2) nd rfl (.inl rfl) (pe_meth (pv 0) TL.cl M.mS M.gS hr1 M.bS .nil pass0 (pa_cons (pv 1) pa_nil)))
      (pss_cons (ps_if (PW.pt (pw_or (pt_cmpR op_isN (pv 2) pe_non (nomark _)) (pw_or1 (pt_cmpR op_notIn_seq (pv 2) (pe_fld (pv 0) rfl) (by rfl))))) (pss_one (ps_ret (pe_lst (pa_cons (pe_glob rfl c1 (rel_int _ _)) pa_nil)))) pss_nil)
      (pss_cons (ps_expr (pe_bm PySem.F.plainAttrs_list PySem.F.slot_list_remove PySem.F.type_list_remove mt_remove (pe_fld (pv 0) rfl) (pa_cons (pv 2) pa_nil)))
      (pss_cons (ps_expr (pe_meth0 (pv 0) TL.cl M.mR M.gR hr5 M.bR .nil pass0))
      (pss_one (ps_ret (pe_lst (pa_cons (pe_meth0 (pv 0) TL.cl M.mN M.gN hr1 M.bN .nil pass0) pa_nil))))))), ?_⟩
    obtain ⟨a, pp, g, ft, x, y, rfl, L, hp, tb, D⟩ := h
    have L0 := L
    obtain ⟨dx, pc, pg, pk, ps, pf, eft, ndf, h1, h2, h3, h4, h5, wf⟩ := L
    obtain ⟨⟨dk, hk1⟩, hk2⟩ := id h4
    refine ⟨_, rfl, a, dx, _, rfl, h1, lR_no (by decide +kernel), _, rfl, a, pp, g, ft, x, y, rfl, L0, hp, ?_⟩
    refine ⟨_, rfl, rfl, _, rfl, ?_⟩
    have refuse : g.map.goals.contains (x, y) = false → ∀ p, H p = none → Q (.ref p) (upd H p (.lst [.int (-2)])) := fun hc p np => by
      refine D.same (ans := [-2]) L0 tb (Same.refl H) np ?_
      show (if g.map.goals.contains (x, y) = false then (g, [-2]) else _) = _
      rw [if_pos hc]
    by_cases hin : Ge07.inside g.map (x, y) = true
    · have es : spotV g.map x y = .int ((ix g.map.w (x, y) : Nat) : Int) := if_pos hin
      rw [es]
      refine if_f rfl ?_
      refine ⟨_, rfl, _, rfl, a, C, dx, _, _, rfl, h1, TL.cl, TL.nG, lR_goals, pg, _, rfl, .inl (SqL.of h3), rfl, flat_nI _, _, rfl, ?_⟩
      show if (!inV (.int ((ix g.map.w (x, y) : Nat) : Int)) (nI (gI g))) = true then _ else _
      rw [inV_nI, gI_has wf hin]
      cases hc : g.map.goals.contains (x, y) with
      | false => exact if_t rfl ⟨(by show 1 ≤ sizeLine; decide), fun p np => refuse hc p np⟩
      | true =>
        have hc' : ¬ g.map.goals.contains (x, y) = false := fun z => by rw [hc] at z; cases z
        refine if_f rfl ?_
        have hc2 : (gI g).contains (ix g.map.w (x, y)) = true := by rw [gI_has wf hin]; exact hc
        obtain ⟨j, hj, hfirst⟩ := first_at hc2
        have est : Ge07.step g (.noGoal (x, y)) = ({ g with map := { g.map with goals := g.map.goals.filter fun q => q != (x, y) } }, Ge07.ints [nearN { g.map with goals := g.map.goals.filter fun q => q != (x, y) }]) := by
          show (if g.map.goals.contains (x, y) = false then (g, [-2]) else _) = _
          rw [if_neg hc']
          rfl
        have wf' : WF { g with map := { g.map with goals := g.map.goals.filter fun q => q != (x, y) } } := by
          have z := wf_step wf (.noGoal (x, y))
          rw [est] at z
          exact z
        have h3' : H pg = some (.lst ((iN (gI g)).map V.int)) := by rw [← nI_iN]; exact h3
        refine ⟨_, rfl, a, C, dx, _, _, rfl, h1, TL.cl, TL.nG, lR_goals, .inl ⟨rfl, _, .inl (.inl h3)⟩, _, rfl, pg, iN (gI g), _, j, rfl, rfl, h3', iN_get.mpr hj, (fun m hm z => hfirst m hm (iN_get.mp z)), ?_⟩
        rw [iN_erase, ← nI_iN, erase_filter (gI_nd wf) hj, ← gI_filter wf hin]
        have ndf' := ndf
        rw [eft] at ndf'
        simp only [List.nodup_cons, List.mem_cons, List.not_mem_nil, or_false, not_or] at ndf'
        obtain ⟨⟨n1, n2, n3, m1, n4⟩, ⟨n5, n6, m2, n7⟩, ⟨n8, m3, n9⟩, ⟨m4, n10⟩, m5, _⟩ := ndf'
        refine tail_ok rfl eft D (dx := dx) (g' := { g with map := { g.map with goals := g.map.goals.filter fun q => q != (x, y) } }) ⟨?_, ?_, ?_, upd_same, ⟨⟨dk, ?_⟩, ?_⟩, wf'⟩ ⟨.lst (fV (Ge07.field g.map)), ?_, fun _ z => by cases z⟩ (fun z => n4 z.symm) (tabs_upd tb h3 (fun _ z => by cases z) (fun _ z => by cases z)) (fun b o e nb nt => ?_) (fun b hb => same_fresh hb) est
        · simp only [List.nodup_cons, List.mem_cons, List.not_mem_nil, or_false, not_or]
          exact ⟨⟨n1, n2, n3, m1⟩, ⟨n5, n6, m2⟩, ⟨n8, m3⟩, m4, not_false, List.nodup_nil⟩
        · rw [upd_ne n2]
          exact h1
        · rw [upd_ne n5]
          exact h2
        · rw [upd_ne (fun z => n8 z.symm)]
          exact hk1
        · rw [upd_ne (fun z => m3 z.symm)]
          exact hk2
        · rw [upd_ne (fun z => n9 z.symm)]
          exact h5
        · rw [upd_ne (fun z => nb (by rw [eft, z]; simp))]
          exact e
    · have es : spotV g.map x y = .non := if_neg hin
      rw [es]
      refine if_t rfl ⟨(by show 1 ≤ sizeLine; decide), fun p np => refuse ?_ p np⟩
      cases q : g.map.goals.contains (x, y) with
      | false => rfl
      | true => exact absurd (wf.goalsIn _ (List.contains_iff_mem.mp q)) hin
/-! ### tell_far -/
abbrev sTellFar : Stmt := inClass sLand 5
def spTellFar (C CC : Addr) (T : List (Addr × Str)) : Sp := fun vs H Q _ => ∃ (a pp : Addr) (g : Ge07.House) (ft : List Addr) (x y : Nat), vs = [.ref a, .ref pp] ∧ LandAt C CC H a g ft ∧ H pp = some (.tup [.int x, .int y]) ∧ Tabs T H ∧ Done C CC T H a g ft (.far (x, y)) Q
theorem scTellFar : FnScope ["self", "place", "spot"] ["self", "place"] (defScope sTellFar) := ⟨rfl, rfl, rfl, by decide +kernel, rfl, by decide +kernel, by decide +kernel⟩
theorem ok_tellFar {f : Addr} {fd : FuncData} {k : Nat} (F : Fun K "tell_far" "Land.tell_far" sTellFar f fd) (TL : LTxt K mg C) (CO : Consts mg) (M : LMeth P w K mg base C CC T fS fSt fR fN fdS fdSt fdR fdN) :
    FnOk P w K mg base CX0 (k + 6) f fd ["self", "place"] (spTellFar C CC T) := by
  obtain ⟨t1, c1⟩ := CO.notT
  obtain ⟨t2, c2⟩ := CO.nowh
  have nd := scTellFar.nd
  refine F.ok scTellFar (fun vs H Q E h => ?_) (fun cdv A outer s H vs Q E hr h => ?_)
  · obtain ⟨a, pp, g, ft, x, y, rfl, _⟩ := h
    rfl
  · have hr1 : Room 1 _ := hr.mono (show 1 ≤ k + 5 by omega)
    refine ⟨_, pss_cons (ps_set (i := 2) nd rfl (.inl rfl) (pe_meth (pv 0) TL.cl M.mS M.gS hr1 M.bS .nil pass0 (pa_cons (pv 1) pa_nil)))
      (pss_cons (ps_if (pt_cmpR op_isN (pv 2) pe_non (nomark _)) (pss_one (ps_ret (pe_lst (pa_cons (pe_glob rfl c1 (rel_int _ _)) pa_nil)))) pss_nil)
      (pss_cons (ps_if (pt_cmpR op_isN (pe_ix ix_list (pe_fld (pv 0) rfl) (pv 2) (fun _ _ => rfl)) pe_non (nomark _)) (pss_one (ps_ret (pe_lst (pa_cons (pe_glob rfl c2 (rel_int _ _)) pa_nil)))) pss_nil)
      (pss_one (ps_ret (pe_lst (pa_cons (pe_ix ix_list (pe_fld (pv 0) rfl) (pv 2) (fun _ _ => rfl)) pa_nil)))))), ?_⟩
    obtain ⟨a, pp, g, ft, x, y, rfl, L, hp, tb, D⟩ := h
    have L0 := L
    obtain ⟨dx, pc, pg, pk, ps, pf, eft, ndf, h1, h2, h3, h4, h5, wf⟩ := L
    obtain ⟨⟨dk, hk1⟩, hk2⟩ := id h4
    refine ⟨_, rfl, a, dx, _, rfl, h1, lR_no (by decide +kernel), _, rfl, a, pp, g, ft, x, y, rfl, L0, hp, ?_⟩
    refine ⟨_, rfl, rfl, _, rfl, ?_⟩
    by_cases hin : Ge07.inside g.map (x, y) = true
    · have es : spotV g.map x y = .int ((ix g.map.w (x, y) : Nat) : Int) := if_pos hin
      have hin' : ¬ Ge07.inside g.map (x, y) = false := fun z => by rw [hin] at z; cases z
      have hs : ix g.map.w (x, y) < (Ge07.field g.map).length := by
        rw [field_len wf.w0]
        exact ix_lt (inside_iff.mp hin).1 (inside_iff.mp hin).2
      have ea : Ge07.at_ g.map (Ge07.field g.map) (x, y) = (Ge07.field g.map).getD (ix g.map.w (x, y)) none := at_fld hin
      rw [es]
      refine if_f rfl ⟨_, rfl, a, C, dx, _, _, rfl, h1, TL.cl, TL.nF, lR_field, _, rfl, pf, _, _, _, rfl, rfl, SqL.of h5, atI_nat (fV_get hs), rfl, _, rfl, ?_⟩
      have est : Ge07.step g (.far (x, y)) = (g, match (Ge07.field g.map).getD (ix g.map.w (x, y)) none with | none => [-6] | some d => Ge07.ints [d]) := by
        show (g, if Ge07.inside g.map (x, y) = false then [-2] else match Ge07.at_ g.map (Ge07.field g.map) (x, y) with | none => [-6] | some d => Ge07.ints [d]) = _
        rw [if_neg hin', ea]
      cases c : (Ge07.field g.map).getD (ix g.map.w (x, y)) none with
      | none =>
        rw [c] at est
        refine if_t rfl ⟨(by show 1 ≤ sizeLine; decide), fun p np => ?_⟩
        exact D.same (ans := [-6]) L0 tb (Same.refl H) np est
      | some d =>
        rw [c] at est
        refine if_f rfl ⟨_, rfl, a, C, dx, _, _, rfl, h1, TL.cl, TL.nF, lR_field, _, rfl, pf, _, _, _, rfl, rfl, SqL.of h5, atI_nat (fV_get hs), (by show 1 ≤ sizeLine; decide), fun p np => ?_⟩
        rw [c]
        exact D.same (ans := [(d : Int)]) L0 tb (Same.refl H) np est
    · have es : spotV g.map x y = .non := if_neg hin
      rw [es]
      refine if_t rfl ⟨(by show 1 ≤ sizeLine; decide), fun p np => ?_⟩
      refine D.same (ans := [-2]) L0 tb (Same.refl H) np ?_
      show (g, if Ge07.inside g.map (x, y) = false then [-2] else _) = _
      rw [if_pos]
      cases q : Ge07.inside g.map (x, y) with
      | false => rfl
      | true => exact absurd q hin
/-! ### told_far, tell_field -/
abbrev sToldFar : Stmt := topS 26
abbrev sTellField : Stmt := inClass sLand 6
def rowV (o : Option Nat) : V := .int ((Ge07.optRow o : Nat) : Int)
def spToldFar : Sp := fun vs H Q _ => ∃ o : Option Nat, vs = [oV o] ∧ Q (rowV o) H
theorem scToldFar : FnScope ["far"] ["far"] (defScope sToldFar) := ⟨rfl, rfl, rfl, by decide +kernel, rfl, by decide +kernel, by decide +kernel⟩
theorem ok_toldFar {f : Addr} {fd : FuncData} {k : Nat} (F : Fun K "told_far" "told_far" sToldFar f fd) : FnOk P w K mg base CX0 (k + 1) f fd ["far"] spToldFar := by
  refine F.ok scToldFar (fun vs H Q E h => ?_) (fun cdv A outer s H vs Q E hr h => ⟨_, pss_one (ps_ret (pe_ifExp (pt_cmpR op_isN (pv 0) pe_non (nomark _)) pe_int (pe_op op_add (pv 0) pe_int))), ?_⟩)
  · obtain ⟨o, rfl, _⟩ := h
    rfl
  · obtain ⟨o, rfl, q⟩ := h
    refine ⟨_, rfl, rfl, _, rfl, ?_⟩
    cases o with
    | none => exact if_t rfl q
    | some d => exact if_f rfl ⟨_, rfl, _, _, rfl, rfl, q⟩
def spTellField (C CC : Addr) (T : List (Addr × Str)) : Sp := fun vs H Q _ => ∃ (a : Addr) (g : Ge07.House) (ft : List Addr), vs = [.ref a] ∧ LandAt C CC H a g ft ∧ Tabs T H ∧ Done C CC T H a g ft .field Q
abbrev nTellField : List Str := ["self", "far"]
theorem scTellField : FnScope nTellField ["self"] (defScope sTellField) := ⟨rfl, rfl, rfl, by decide +kernel, rfl, by decide +kernel, by decide +kernel⟩
theorem ok_tellField {f fF : Addr} {fd fdF : FuncData} {k : Nat} (F : Fun K "tell_field" "Land.tell_field" sTellField f fd) (TL : LTxt K mg C)
    (GF : FnOk P w K mg base CX0 1 fF fdF ["far"] spToldFar) (bF : Binds K fdF ["far"] []) (mF : mg "told_far" = some (.ref fF)) (kF : PySem.W.keepIn K (.ref fF) = true) : FnOk P w K mg base CX0 (k + 2) f fd ["self"] (spTellField C CC T) := by
  have nd := scTellField.nd
  refine F.ok scTellField (fun vs H Q E h => ?_) (fun cdv A outer s H vs Q E hr h => ?_)
  · obtain ⟨a, g, ft, rfl, _⟩ := h
    rfl
  · have hr1 : Room 1 _ := hr.mono (show 1 ≤ k + 1 by omega)
    refine ⟨_, pss_one (ps_ret
      (pe_lc (own := [("far", 1)]) (g := gName 1) (tt := tYes) rfl nd (pi_list (pe_fld (pv 0) rfl)) (blkOk_by (N := nTellField) (sc := defScope sTellField) (by decide +kernel)) (fun _ _ _ _ _ => pg_name (i := 1) nd rfl (Or.inl rfl)) (fun _ _ _ _ _ => pts_nil) (fun _ _ _ _ _ => pe_call GF hr1 rfl mF kF bF .nil pass0 (pa_cons (pv 1) pa_nil)))), ?_⟩
    obtain ⟨a, g, ft, rfl, L, tb, D⟩ := h
    have L0 := L
    obtain ⟨dx, pc, pg, pk, ps, pf, eft, ndf, h1, h2, h3, h4, h5, wf⟩ := L
    have hlen : (Ge07.field g.map).length ≤ 144 := by
      rw [field_len wf.w0]
      exact Nat.mul_le_mul wf.w12 wf.h12
    refine ⟨_, rfl, a, C, dx, _, _, rfl, h1, TL.cl, TL.nF, lR_field, pf, rfl, ⟨_, SqL.of h5⟩, fun D' nD => lc_list (K := K) (a := pf) (xs := fV (Ge07.field g.map)) (fun i H' => H' = upd H D' (.lst (((Ge07.field g.map).take i).map rowV))) rfl (fun i H' _ z => by rw [z]; exact (same_upd nD).seq (SqL.of h5)) ?_ ?_⟩
    · rintro i x H' hi rfl
      unfold fV at hi
      rw [List.getElem?_map] at hi
      obtain ⟨d, hd, rfl⟩ := Option.map_eq_some_iff.mp hi
      have lt : i < (Ge07.field g.map).length := (List.getElem?_eq_some_iff.mp hd).1
      have sz : (((Ge07.field g.map).take i).map rowV).length < sizeLine := by
        rw [List.length_map, List.length_take]
        exact small1000 (by omega)
      have step : ((Ge07.field g.map).take (i + 1)).map rowV = ((Ge07.field g.map).take i).map rowV ++ [rowV d] := by
        rw [take_next hd, List.map_append]
        rfl
      exact ⟨rfl, _, rfl, d, rfl, _, upd_same, sz, by rw [upd_upd, step]⟩
    · rintro H1 rfl
      rw [fV_len, List.take_length]
      have z := D.same (ans := Ge07.ints ((Ge07.field g.map).map Ge07.optRow)) L0 tb (Same.refl H) nD rfl
      have e : (Ge07.ints ((Ge07.field g.map).map Ge07.optRow)).map V.int = (Ge07.field g.map).map rowV := by
        unfold Ge07.ints
        rw [List.map_map, List.map_map]
        rfl
      rw [e] at z
      exact z
end
end Gf
set_option Elab.async false
set_option linter.all false
set_option maxRecDepth 100000
set_option maxHeartbeats 2000000
namespace Gf
open PySem PySem.Spec PyProof.Rows L2 LamX NdefX
abbrev sIsMap : Stmt := topS 24
abbrev sIsSide : Stmt := topS 25
abbrev sLayOut : Stmt := inClass sLand 1
abbrev sLInit : Stmt := inClass sLand 0
section
variable {P : Program} {w : World} {K : PySem.W.Frag} {mg : Str → Option Value} {base : Heap} {C CC : Addr} {T : List (Addr × Str)} {fS fSt fR fN : Addr} {fdS fdSt fdR fdN : FuncData}
/-! ### is_side, is_map -/
def sideB (n : Nat) : Bool := decide (1 ≤ n) && decide (n ≤ 12)
def spIsSide : Sp := fun vs H Q _ => ∃ n : Nat, vs = [.int n] ∧ Q (.bl (sideB n)) H
theorem scIsSide : FnScope ["length"] ["length"] (defScope sIsSide) := ⟨rfl, rfl, rfl, by decide +kernel, rfl, by decide +kernel, by decide +kernel⟩
theorem ok_isSide {f : Addr} {fd : FuncData} {k : Nat} (F : Fun K "is_side" "is_side" sIsSide f fd) (CO : Consts mg) : FnOk P w K mg base CX0 (k + 1) f fd ["length"] spIsSide := by
  obtain ⟨t1, c1⟩ := CO.side
  refine F.ok scIsSide (fun vs H Q E h => ?_) (fun cdv A outer s H vs Q E hr h => ⟨_, pss_one (ps_ret (pe_chain op_le op_le pe_int (pv 0) (pe_glob rfl c1 (rel_int _ _)))), ?_⟩)
  · obtain ⟨n, rfl, _⟩ := h
    rfl
  · obtain ⟨n, rfl, q⟩ := h
    refine ⟨_, rfl, _, _, rfl, rfl, _, rfl, ?_⟩
    unfold sideB at q
    by_cases c : 1 ≤ n
    · refine if_t (decide_eq_true (by omega)) ⟨_, _, rfl, rfl, ?_⟩
      rw [decide_eq_true c, Bool.true_and] at q
      have e : decide ((n : Int) ≤ 12) = decide (n ≤ 12) := decide_eq_decide.mpr (by omega)
      show Q (.bl (decide ((n : Int) ≤ 12))) H
      rw [e]
      exact q
    · refine if_f (decide_eq_false (by omega)) ?_
      rw [decide_eq_false c, Bool.false_and] at q
      exact q
def mapB (wd hg : Nat) (cs : List Nat) : Bool := sideB wd && (sideB hg && (decide (cs.length = wd * hg) && cs.all fun n => decide (n ≤ 99)))
def spIsMap (K : PySem.W.Frag) : Sp := fun vs H Q _ => ∃ (wd hg : Nat) (pc : Addr) (cs : List Nat), vs = [.int wd, .int hg, .ref pc] ∧ SqL K H pc (nI cs) ∧ Q (.bl (mapB wd hg cs)) H
theorem scIsMap : FnScope ["wide", "high", "costs"] ["wide", "high", "costs"] (defScope sIsMap) := ⟨rfl, rfl, rfl, by decide +kernel, rfl, by decide +kernel, by decide +kernel⟩
theorem side_iff {n : Nat} : sideB n = true ↔ 1 ≤ n ∧ n ≤ 12 := by
  unfold sideB
  rw [Bool.and_eq_true, decide_eq_true_iff, decide_eq_true_iff]
theorem ok_isMap {f fI : Addr} {fd fdI : FuncData} {k : Nat} (F : Fun K "is_map" "is_map" sIsMap f fd) (CO : Consts mg) (GI : FnOk P w K mg base CX0 1 fI fdI ["length"] spIsSide) (bI : Binds K fdI ["length"] []) (mI : mg "is_side" = some (.ref fI)) (kI : PySem.W.keepIn K (.ref fI) = true)
    (mL : mg "len" = none) (mM : mg "max" = none) : FnOk P w K mg base CX0 (k + 2) f fd ["wide", "high", "costs"] (spIsMap K) := by
  obtain ⟨t1, c1⟩ := CO.dear
  refine F.ok scIsMap (fun vs H Q E h => ?_) (fun cdv A outer s H vs Q E hr h => ?_)
  · obtain ⟨wd, hg, pc, cs, rfl, _⟩ := h
    rfl
  · have hr1 : Room 1 _ := hr.mono (show 1 ≤ k + 1 by omega)
    refine ⟨_, pss_one (ps_ret (pe_and (pe_call GI hr1 rfl mI kI bI .nil pass0 (pa_cons (pv 0) pa_nil)) (pe_and (pe_call GI hr1 rfl mI kI bI .nil pass0 (pa_cons (pv 1) pa_nil))
      (pe_and (pe_cmpR op_eq (pe_callB call_len_seq (by rfl) mL PySem.boot_len (pa_cons (pv 2) pa_nil)) (pe_op op_mul (pv 0) (pv 1)) (nomark _)) (pe_one (pe_cmpR op_le (pe_callB (cr_max rfl) (by rfl) mM PyProof.Rows.boot_max (pa_cons (pv 2) pa_nil)) (pe_glob rfl c1 (rel_int _ _)) (nomark _))))))), ?_⟩
    obtain ⟨wd, hg, pc, cs, rfl, hC, q⟩ := h
    unfold mapB at q
    refine ⟨_, rfl, wd, rfl, _, rfl, ?_⟩
    cases e1 : sideB wd with
    | false =>
      rw [e1] at q
      exact if_f rfl q
    | true =>
      rw [e1, Bool.true_and] at q
      refine if_t rfl ⟨_, rfl, hg, rfl, _, rfl, ?_⟩
      cases e2 : sideB hg with
      | false =>
        rw [e2] at q
        exact if_f rfl q
      | true =>
        rw [e2, Bool.true_and] at q
        have s1 := side_iff.mp e1
        have s2 := side_iff.mp e2
        refine if_t rfl ⟨_, rfl, pc, _, rfl, .inl hC, _, rfl, _, rfl, _, _, rfl, rfl, .inl ⟨by omega, by omega⟩, rfl, _, rfl, ?_⟩
        have e3 : decide (V.int ((nI cs).length : Int) = V.int ((wd : Int) * (hg : Int))) = decide (cs.length = wd * hg) := by
          rw [nI_len]
          refine decide_eq_decide.mpr ⟨fun z => ?_, fun z => ?_⟩
          · injection z with z
            rw [← Int.natCast_mul] at z
            omega
          · rw [z, Int.natCast_mul]
        rw [e3]
        by_cases c3 : cs.length = wd * hg
        · rw [decide_eq_true c3, Bool.true_and] at q
          refine if_t (decide_eq_true c3) ?_
          have hpos : 0 < cs.length := by
            rw [c3]
            exact Nat.mul_pos (by omega) (by omega)
          refine ⟨_, rfl, pc, iN cs, rfl, by rw [← nI_iN]; exact hC, by unfold iN; rw [List.length_map]; exact hpos, fun m hm hle => ⟨_, _, rfl, rfl, ?_⟩⟩
          obtain ⟨n, hn, rfl⟩ := List.mem_map.mp hm
          have e4 : decide ((n : Int) ≤ 99) = cs.all fun n => decide (n ≤ 99) := by
            by_cases c : n ≤ 99
            · rw [decide_eq_true (by omega)]
              symm
              refine List.all_eq_true.mpr fun y hy => decide_eq_true ?_
              have := hle (y : Int) (List.mem_map.mpr ⟨y, hy, rfl⟩)
              omega
            · rw [decide_eq_false (by omega)]
              symm
              cases c5 : cs.all fun n => decide (n ≤ 99) with
              | false => rfl
              | true => exact absurd (of_decide_eq_true (List.all_eq_true.mp c5 n hn)) c
          show Q (.bl (decide ((n : Int) ≤ 99))) H
          rw [e4]
          exact q
        · rw [decide_eq_false c3] at q
          exact if_f (decide_eq_false c3) q
/-! ### lay_out -/
def spLayOut (C CC : Addr) (T : List (Addr × Str)) : Sp := fun vs H Q _ => ∃ (a pr : Addr) (g : Ge07.House) (ft : List Addr) (wd hg : Nat) (cs : List Nat), vs = [.ref a, .int wd, .int hg, .ref pr] ∧ LandAt C CC H a g ft ∧ H pr = some (.lst (nI cs)) ∧ pr ∉ ft ∧ Tabs T H ∧ cs.length ≤ 160 ∧ Done C CC T H a g ft (.map wd hg cs) Q
abbrev nLayOut : List Str := ["self", "wide", "high", "costs", "cost"]
theorem scLayOut : FnScope nLayOut ["self", "wide", "high", "costs"] (defScope sLayOut) := ⟨rfl, rfl, rfl, by decide +kernel, rfl, by decide +kernel, by decide +kernel⟩
theorem mapB_iff (wd hg : Nat) (cs : List Nat) : mapB wd hg cs = true ↔ ¬ (wd = 0 ∨ 12 < wd ∨ hg = 0 ∨ 12 < hg ∨ cs.length ≠ wd * hg ∨ (cs.all fun n => decide (n ≤ 99)) = false) := by
  unfold mapB
  rw [Bool.and_eq_true, Bool.and_eq_true, Bool.and_eq_true, side_iff, side_iff, decide_eq_true_iff]
  constructor
  · rintro ⟨⟨h1, h2⟩, ⟨h3, h4⟩, h5, h6⟩ (z | z | z | z | z | z)
    · omega
    · omega
    · omega
    · omega
    · exact z h5
    · rw [h6] at z; cases z
  · intro h
    refine ⟨⟨?_, ?_⟩, ⟨?_, ?_⟩, ?_, ?_⟩
    · exact Nat.pos_of_ne_zero fun z => h (.inl z)
    · exact Nat.le_of_not_lt fun z => h (.inr (.inl z))
    · exact Nat.pos_of_ne_zero fun z => h (.inr (.inr (.inl z)))
    · exact Nat.le_of_not_lt fun z => h (.inr (.inr (.inr (.inl z))))
    · exact Decidable.of_not_not fun z => h (.inr (.inr (.inr (.inr (.inl z)))))
    · cases c : cs.all fun n => decide (n ≤ 99) with
      | true => rfl
      | false => exact absurd (.inr (.inr (.inr (.inr (.inr c))))) h
theorem ok_layOut {f fM fA : Addr} {fd fdM fdA : FuncData} {k : Nat} (F : Fun K "lay_out" "Land.lay_out" sLayOut f fd) (TL : LTxt K mg C) (CO : Consts mg) (M : LMeth P w K mg base C CC T fS fSt fR fN fdS fdSt fdR fdN)
    (GM : FnOk P w K mg base CX0 2 fM fdM ["wide", "high", "costs"] (spIsMap K)) (bM : Binds K fdM ["wide", "high", "costs"] []) (mM : mg "is_map" = some (.ref fM)) (kM : PySem.W.keepIn K (.ref fM) = true)
    (GA : FnOk P w K mg base CX0 1 fA fdA ["self"] (spLeaveAll CC)) (bA : Binds K fdA ["self"] []) (mA : Meth K CC "leave_all" fA)
    (mL : mg "len" = none) (mLi : mg "list" = none) : FnOk P w K mg base CX0 (k + 6) f fd ["self", "wide", "high", "costs"] (spLayOut C CC T) := by
  obtain ⟨t1, c1⟩ := CO.bad
  have nd := scLayOut.nd
  refine F.ok scLayOut (fun vs H Q E h => ?_) (fun cdv A outer s H vs Q E hr h => ?_)
  · obtain ⟨a, pr, g, ft, wd, hg, cs, rfl, _⟩ := h
    rfl
  · have hr1 : Room 1 _ := hr.mono (show 1 ≤ k + 5 by omega)
    have hr2 : Room 2 _ := hr.mono (show 2 ≤ k + 5 by omega)
    have hr5 : Room 5 _ := hr.mono (show 5 ≤ k + 5 by omega)
    refine ⟨_, pss_cons (ps_if (pt_not (pt_val (pe_call GM hr2 rfl mM kM bM .nil pass0 (pa_cons (pv 1) (pa_cons (pv 2) (pa_cons (pv 3) pa_nil)))))) (pss_one (ps_ret (pe_lst (pa_cons (pe_glob rfl c1 (rel_int _ _)) pa_nil)))) pss_nil)
      (pss_cons (ps_fld (pv 0) (pv 1) rfl)
      (pss_cons (ps_fld (pv 0) (pv 2) rfl)
      (pss_cons (ps_fld (pv 0) (pe_callTy call_list_of (by rfl) mLi PyProof.Rows.boot_list (pa_cons (pv 3) pa_nil)) rfl)
      (pss_cons (ps_fld (pv 0) (pe_lst pa_nil) rfl)
      (pss_cons (ps_expr (pe_meth0 (pe_fld (pv 0) rfl) M.tk.cl mA GA hr1 bA .nil pass0))
      (pss_cons (ps_expr (pe_meth0 (pv 0) TL.cl M.mR M.gR hr5 M.bR .nil pass0))
      (pss_one (ps_ret (pe_lst (pa_cons (pe_callB call_len_seq (by rfl) mL PySem.boot_len (pa_cons (pv 3) pa_nil)) (pa_cons (pe_callB call_len_seq (by rfl) mL PySem.boot_len (pa_cons
        (pe_lc (own := [("cost", 4)]) (g := gName 4) rfl nd (pi_list (pv 3)) (blkOk_by (N := nLayOut) (sc := defScope sLayOut) (by decide +kernel)) (fun _ _ _ _ _ => pg_name (i := 4) nd rfl (Or.inl rfl)) (fun _ _ _ _ _ => pts_one (pt_cmpR op_gt (pv 4) pe_int (nomark _))) (fun _ _ _ _ _ => pv 4)) pa_nil)) pa_nil))))))))))), ?_⟩
    obtain ⟨a, pr, g, ft, wd, hg, cs, rfl, L, hp, npr, tb, hlen, D⟩ := h
    have L0 := L
    obtain ⟨dx, pc, pg, pk, ps, pf, eft, ndf, h1, h2, h3, h4, h5, wf⟩ := L
    obtain ⟨⟨dk, hk1⟩, hk2⟩ := id h4
    refine ⟨_, rfl, _, rfl, _, rfl, wd, hg, pr, cs, rfl, SqL.of hp, _, rfl, ?_⟩
    cases eB : mapB wd hg cs with
    | false =>
      refine if_t rfl ⟨(by show 1 ≤ sizeLine; decide), fun p np => ?_⟩
      refine D.same (ans := [-1]) L0 tb (Same.refl H) np ?_
      show (if wd = 0 ∨ 12 < wd ∨ hg = 0 ∨ 12 < hg ∨ cs.length ≠ wd * hg ∨ (cs.all fun n => decide (n ≤ 99)) = false then (g, [-1]) else _) = _
      rw [if_pos]
      refine Decidable.of_not_not fun z => ?_
      rw [(mapB_iff wd hg cs).mpr z] at eB
      cases eB
    | true =>
      have nB := (mapB_iff wd hg cs).mp eB
      refine if_f rfl ?_
      have est : Ge07.step g (.map wd hg cs) = ({ g with map := ⟨wd, hg, cs, []⟩, crowd := [] }, Ge07.ints [wd * hg, (cs.filter fun n => n != 0).length]) := by
        show (if wd = 0 ∨ 12 < wd ∨ hg = 0 ∨ 12 < hg ∨ cs.length ≠ wd * hg ∨ (cs.all fun n => decide (n ≤ 99)) = false then (g, [-1]) else _) = _
        rw [if_neg nB]
      have wf' : WF { g with map := ⟨wd, hg, cs, []⟩, crowd := [] } := by
        have z := wf_step wf (.map wd hg cs)
        rw [est] at z
        exact z
      -- self.wide = wide; self.high = high
      refine ⟨_, rfl, _, rfl, a, C, dx, _, rfl, h1, TL.cl, TL.nW, lR_len _ _ _ _ _ _, _, rfl, _, rfl, a, C, dx, _, rfl, upd_same, TL.cl, TL.nH, (by rw [lR_putW]; exact lR_len _ _ _ _ _ _), ?_⟩
      rw [lR_putW, lR_putH, upd_upd]
      have pra : pr ≠ a := ne_of hp h1 (by intro z; cases z)
      -- self.costs = list(costs)
      have hp2 : upd H a (.ins C dx (lR (.int wd) (.int hg) (.ref pc) (.ref pg) (.ref pk) (.ref pf))) pr = some (.lst (nI cs)) := by rw [upd_ne pra]; exact hp
      refine ⟨_, rfl, pr, _, rfl, .inl (SqL.of hp2), fun pl npl => ?_⟩
      have pla : pl ≠ a := fun z => by rw [z, upd_same] at npl; cases npl
      rw [upd_ne pla] at npl
      refine ⟨_, rfl, a, C, dx, _, rfl, (by rw [upd_ne (fun z => pla z.symm), upd_same]), TL.cl, TL.nC, lR_len _ _ _ _ _ _, ?_⟩
      rw [lR_putC]
      -- self.goals = []
      refine ⟨Nat.zero_le _, fun pgl npgl => ?_⟩
      have pga : pgl ≠ a := fun z => by rw [z, upd_same] at npgl; cases npgl
      rw [upd_ne pga] at npgl
      have pgp : pgl ≠ pl := fun z => by rw [z, upd_same] at npgl; cases npgl
      rw [upd_ne pgp, upd_ne pga] at npgl
      refine ⟨_, rfl, a, C, dx, _, rfl, (by rw [upd_ne (fun z => pga z.symm), upd_same]), TL.cl, TL.nG, lR_len _ _ _ _ _ _, ?_⟩
      rw [lR_putG]
      -- self.crowd.leave_all()
      have pka : pk ≠ a := ne_of hk1 h1 (by intro z; cases z)
      have psa : ps ≠ a := ne_of hk2 h1 (by intro z; cases z)
      generalize hH5 : upd _ a (HO.ins C dx (lR (.int wd) (.int hg) (.ref pl) (.ref pgl) (.ref pk) (.ref pf))) = H5
      have ea5 : H5 a = some (.ins C dx (lR (.int wd) (.int hg) (.ref pl) (.ref pgl) (.ref pk) (.ref pf))) := by rw [← hH5, upd_same]
      have epl5 : H5 pl = some (.lst (nI cs)) := by rw [← hH5, upd_ne pla, upd_ne (fun z => pgp z.symm), upd_ne pla, upd_same]
      have epg5 : H5 pgl = some (.lst []) := by rw [← hH5, upd_ne pga, upd_same]
      have kp5 : ∀ b o, H b = some o → b ≠ a → H5 b = some o := fun b o e n => by rw [← hH5, upd_ne n, upd_ne (ne_of_none e npgl), upd_ne n, upd_ne (ne_of_none e npl), upd_ne n]; exact e
      have tb5 : Tabs T H5 := tabs_but tb h1 (fun _ z => by cases z) (fun _ z => by cases z) kp5
      clear hH5
      have hk15 := kp5 pk _ hk1 pka
      have hk25 := kp5 ps _ hk2 psa
      refine ⟨_, rfl, a, C, dx, _, _, rfl, ea5, TL.cl, TL.nK, lR_crowd, pk, dk, _, rfl, hk15, kR_no (by decide +kernel), pk, ps, crI g, g.given, rfl, ⟨⟨dk, hk15⟩, hk25⟩, fun H6 ps6 C6 nps6 k6 => ?_⟩
      have ne6 : ∀ {b o}, H5 b = some o → b ≠ ps6 := fun e => ne_of_none e nps6
      have plk : pl ≠ pk := fun z => by rw [z, hk1] at npl; cases npl
      have pgk : pgl ≠ pk := fun z => by rw [z, hk1] at npgl; cases npgl
      have ea : H6 a = some (.ins C dx (lR (.int wd) (.int hg) (.ref pl) (.ref pgl) (.ref pk) (.ref pf))) := by rw [k6 a (fun z => pka z.symm) (ne6 ea5)]; exact ea5
      have epl : H6 pl = some (.lst (nI cs)) := by rw [k6 pl plk (ne6 epl5)]; exact epl5
      have epg : H6 pgl = some (.lst []) := by rw [k6 pgl pgk (ne6 epg5)]; exact epg5
      have kp : ∀ b o, H b = some o → b ≠ a → b ≠ pk → H6 b = some o := fun b o e n n2 => by
        have e5 := kp5 b o e n
        rw [k6 b n2 (ne6 e5)]
        exact e5
      obtain ⟨⟨dk6, q61⟩, q62⟩ := id C6
      have fre : ∀ b, H6 b = none → H b = none := fun b e => by
        cases c : H b with
        | none => rfl
        | some o =>
          by_cases z : b = a
          · rw [z, ea] at e; cases e
          · by_cases z2 : b = pk
            · rw [z2, q61] at e; cases e
            · rw [kp b o c z z2] at e; cases e
      have nps0 : H ps6 = none := by
        cases c : H ps6 with
        | none => rfl
        | some o =>
          by_cases z : ps6 = a
          · rw [z, ea5] at nps6; cases nps6
          · rw [kp5 ps6 o c z] at nps6; cases nps6
      have tb6 : Tabs T H6 := tabs_but tb5 hk15 (fun _ z => by cases z) (fun _ z => by cases z) fun b o e n => by
        rw [k6 b n (ne6 e)]
        exact e
      have LR : LRaw C CC H6 a { g with map := ⟨wd, hg, cs, []⟩, crowd := [] } dx pl pgl pk ps6 (.ref pf) := by
        refine ⟨?_, ea, epl, epg, C6, wf'⟩
        simp only [List.nodup_cons, List.mem_cons, List.not_mem_nil, or_false, not_or]
        exact ⟨⟨fun z => pla z.symm, fun z => pga z.symm, fun z => pka z.symm, ne6 ea5⟩, ⟨fun z => pgp z.symm, plk, ne6 epl5⟩, ⟨pgk, ne6 epg5⟩, ne6 hk15, not_false, List.nodup_nil⟩
      -- self.reckon()
      refine ⟨_, rfl, a, dx, _, rfl, ea, lR_no (by decide +kernel), a, _, dx, pl, pgl, pk, ps6, _, rfl, LR, tb6, fun H7 pf7 L7 npf7 m7 t7 => ?_⟩
      have prk : pr ≠ pk := ne_of hp hk1 (by intro z; cases z)
      have hp7 : H7 pr = some (.lst (nI cs)) := m7 pr _ (kp pr _ hp pra prk) pra fun _ z => by cases z
      -- the answer
      refine ⟨_, rfl, pr, _, rfl, .inl (SqL.of hp7), _, rfl, pr, rfl, ⟨_, SqL.of hp7⟩, fun D' nD => lc_list (K := K) (a := pr) (xs := nI cs) (fun i H' => Same H7 H' ∧ H' D' = some (.lst (nI ((cs.take i).filter fun n => n != 0)))) ⟨same_upd nD, upd_same⟩ (fun i H' _ z => z.1.seq (SqL.of hp7)) ?_ ?_⟩
      · rintro i x H' hi ⟨s1, e1⟩
        obtain ⟨n, hn, rfl⟩ := nI_mem hi
        have step : ((cs.take (i + 1)).filter fun n => n != 0) = ((cs.take i).filter fun n => n != 0) ++ ([n].filter fun n => n != 0) := by
          rw [take_next hn, List.filter_append]
        refine ⟨rfl, _, rfl, _, _, rfl, rfl, _, rfl, ?_⟩
        by_cases c0 : n = 0
        · refine if_f (decide_eq_false (by omega)) ⟨s1, ?_⟩
          rw [step, e1, c0]
          show _ = some (HO.lst (nI (_ ++ [])))
          rw [List.append_nil]
        · refine if_t (decide_eq_true (by omega)) ⟨_, rfl, _, e1, ?_, fun b o e => ?_, ?_⟩
          · rw [nI_len]
            refine small1000 (Nat.le_trans (List.length_filter_le _ _) ?_)
            rw [List.length_take]
            omega
          · rw [upd_ne (ne_of_none e nD)]
            exact s1 b o e
          · rw [upd_same, step, List.filter_cons_of_pos (p := fun n => n != 0) (bne_iff_ne.mpr c0), nI_app]
            rfl
      · rintro H8 ⟨s8, e8⟩
        rw [nI_len, List.take_length] at e8
        refine ⟨D', _, rfl, .inl (SqL.of e8), (by show 2 ≤ sizeLine; decide), fun p np => ?_⟩
        have z := D.changed (g' := { g with map := ⟨wd, hg, cs, []⟩, crowd := [] }) (ans := Ge07.ints [wd * hg, (cs.filter fun n => n != 0).length]) (p := p) L7 (fun b hb => ?_) (fun b o e nb nt => ?_) (fun b hb => ?_) t7 s8 np est
        · rw [nI_len, nI_len, show cs.length = wd * hg from wf'.len]
          exact z
        · simp only [List.mem_cons, List.not_mem_nil, or_false] at hb
          rw [eft]
          rcases hb with rfl | rfl | rfl | rfl | rfl | rfl
          · exact .inl (by simp)
          · exact .inr (fresh_of npl)
          · exact .inr (fresh_of npgl)
          · exact .inl (by simp)
          · exact .inr (fresh_of nps0)
          · exact .inr (fresh_of (fre b npf7))
        · have na : b ≠ a := fun z => nb (by rw [eft, z]; simp)
          have nk : b ≠ pk := fun z => nb (by rw [eft, z]; simp)
          exact m7 b o (kp b o e na nk) na nt
        · obtain ⟨o, eo, no, _⟩ := (landOk C CC).there L0 b hb
          by_cases z : b = a
          · obtain ⟨_, _, _, _, _, _, _, _, q7, _⟩ := L7
            exact ⟨_, by rw [z]; exact q7⟩
          · by_cases z2 : b = pk
            · exact ⟨_, m7 b _ (by rw [z2]; exact q61) z fun _ z => by cases z⟩
            · exact ⟨o, m7 b o (kp b o eo z z2) z no⟩
end
end Gf
set_option Elab.async false
set_option linter.all false
set_option maxRecDepth 100000
set_option maxHeartbeats 2000000
namespace Gf
open PySem PySem.Spec PyProof.Rows L2 LamX NdefX
section
variable {P : Program} {w : World} {K : PySem.W.Frag} {mg : Str → Option Value} {base : Heap} {C CC CR : Addr} {T : List (Addr × Str)}
/-! ### Land() -/
theorem scLInit : FnScope ["self"] ["self"] (defScope sLInit) := ⟨rfl, rfl, rfl, by decide +kernel, rfl, by decide +kernel, by decide +kernel⟩
theorem field_init : Ge07.field Ge07.init.map = [none] := by decide +kernel
theorem lR_new (wd hg pc pg pk pf : V) : putF "field" pf (putF "crowd" pk (putF "goals" pg (putF "costs" pc (putF "high" hg (putF "wide" wd []))))) = lR wd hg pc pg pk pf := by
  have e1 : putF "wide" wd [] = ([("wide", wd)] : List (Str × V)) := rfl
  have e2 : putF "high" hg ([("wide", wd)] : List (Str × V)) = ([("wide", wd), ("high", hg)] : List (Str × V)) := (put_past (by decide +kernel)).trans rfl
  have e3 : putF "costs" pc ([("wide", wd), ("high", hg)] : List (Str × V)) = ([("wide", wd), ("high", hg), ("costs", pc)] : List (Str × V)) := (put_past (by decide +kernel)).trans (congrArg _ ((put_past (by decide +kernel)).trans rfl))
  have e4 : putF "goals" pg ([("wide", wd), ("high", hg), ("costs", pc)] : List (Str × V)) = ([("wide", wd), ("high", hg), ("costs", pc), ("goals", pg)] : List (Str × V)) := (put_past (by decide +kernel)).trans (congrArg _ ((put_past (by decide +kernel)).trans (congrArg _ ((put_past (by decide +kernel)).trans rfl))))
  have e5 : putF "crowd" pk ([("wide", wd), ("high", hg), ("costs", pc), ("goals", pg)] : List (Str × V)) = ([("wide", wd), ("high", hg), ("costs", pc), ("goals", pg), ("crowd", pk)] : List (Str × V)) := (put_past (by decide +kernel)).trans (congrArg _ ((put_past (by decide +kernel)).trans (congrArg _ ((put_past (by decide +kernel)).trans (congrArg _ ((put_past (by decide +kernel)).trans rfl))))))
  have e6 : putF "field" pf ([("wide", wd), ("high", hg), ("costs", pc), ("goals", pg), ("crowd", pk)] : List (Str × V)) = lR wd hg pc pg pk pf := (put_past (by decide +kernel)).trans (congrArg _ ((put_past (by decide +kernel)).trans (congrArg _ ((put_past (by decide +kernel)).trans (congrArg _ ((put_past (by decide +kernel)).trans (congrArg _ ((put_past (by decide +kernel)).trans rfl))))))))
  rw [e1, e2, e3, e4, e5, e6]
theorem putF_len (f : Str) (v : V) : ∀ fs : List (Str × V), (putF f v fs).length ≤ fs.length + 1
  | [] => Nat.le_refl _
  | (g, x) :: fs => by
    by_cases e : g = f
    · rw [e, put_here]
      exact Nat.le_succ _
    · rw [put_past e]
      exact Nat.succ_le_succ (putF_len f v fs)
theorem ok_lInit {f fKI : Addr} {fd fdKI : FuncData} {k : Nat} (F : Fun K "__init__" "Land.__init__" sLInit f fd) (TL : LTxt K mg C) (TK : KTxt K mg CC) (MK : Mk K CC fKI) (GK : FnOk P w K mg base CX0 1 fKI fdKI ["self"] (spKInit CC)) (bK : Binds K fdKI ["self"] []) : FnOk P w K mg base CX0 (k + 3) f fd ["self"] (spLInit (LandAt C CC) C T) := by
  refine F.ok scLInit (fun vs H Q E h => ?_) (fun cdv A outer s H vs Q E hr h => ⟨_, pss_cons (ps_fld (pv 0) pe_int rfl) (pss_cons (ps_fld (pv 0) pe_int rfl) (pss_cons (ps_fld (pv 0) (pe_lst (pa_cons pe_int pa_nil)) rfl) (pss_cons (ps_fld (pv 0) (pe_lst pa_nil) rfl)
    (pss_cons (ps_fld (pv 0) (pe_make0 MK GK (hr.mono (show 2 ≤ k + 2 by omega)) rfl TK.gC bK .nil pass0) rfl) (pss_one (ps_fld (pv 0) (pe_lst (pa_cons pe_non pa_nil)) rfl)))))), ?_⟩)
  · obtain ⟨p, dx, rfl, _⟩ := h
    rfl
  · obtain ⟨a, dx, rfl, h1, q⟩ := h
    have sm : ∀ {fs : List (Str × V)} {n : Nat}, fs.length ≤ n → n < 1000 → fs.length < 1000 := fun h1 h2 => Nat.lt_of_le_of_lt h1 h2
    have l1 := putF_len "wide" (.int 1) []
    have l2 := fun v => Nat.le_trans (putF_len "high" v (putF "wide" (.int 1) [])) (Nat.succ_le_succ l1)
    refine ⟨_, rfl, a, C, dx, _, rfl, h1, TL.cl, TL.nW, (by show 0 < 1000; decide), _, rfl, a, C, dx, _, rfl, upd_same, TL.cl, TL.nH, sm l1 (by decide), ?_⟩
    rw [upd_upd]
    refine ⟨(by show 1 ≤ sizeLine; decide), fun pc npc => ?_⟩
    have ca : pc ≠ a := fun z => by rw [z, upd_same] at npc; cases npc
    rw [upd_ne ca] at npc
    refine ⟨_, rfl, a, C, dx, _, rfl, (by rw [upd_ne (fun z => ca z.symm), upd_same]), TL.cl, TL.nC, sm (l2 _) (by decide), ?_⟩
    have l3 := Nat.le_trans (putF_len "costs" (.ref pc) _) (Nat.succ_le_succ (l2 (.int 1)))
    refine ⟨Nat.zero_le _, fun pg npg => ?_⟩
    have ga : pg ≠ a := fun z => by rw [z, upd_same] at npg; cases npg
    rw [upd_ne ga] at npg
    have gc : pg ≠ pc := fun z => by rw [z, upd_same] at npg; cases npg
    rw [upd_ne gc, upd_ne ga] at npg
    refine ⟨_, rfl, a, C, dx, _, rfl, (by rw [upd_ne (fun z => ga z.symm), upd_same]), TL.cl, TL.nG, sm l3 (by decide), ?_⟩
    have l4 := Nat.le_trans (putF_len "goals" (.ref pg) _) (Nat.succ_le_succ l3)
    -- self.crowd = Crowd()
    generalize hH4 : upd _ a (HO.ins C dx (putF "goals" (.ref pg) (putF "costs" (.ref pc) (putF "high" (.int 1) (putF "wide" (.int 1) []))))) = H4
    have ea4 : H4 a = some (.ins C dx (putF "goals" (.ref pg) (putF "costs" (.ref pc) (putF "high" (.int 1) (putF "wide" (.int 1) []))))) := by rw [← hH4, upd_same]
    have ec4 : H4 pc = some (.lst [.int 1]) := by rw [← hH4, upd_ne ca, upd_ne (fun z => gc z.symm), upd_ne ca, upd_same]
    have eg4 : H4 pg = some (.lst []) := by rw [← hH4, upd_ne ga, upd_same]
    have kp4 : ∀ b o, H b = some o → b ≠ a → H4 b = some o := fun b o e n => by rw [← hH4, upd_ne n, upd_ne (ne_of_none e npg), upd_ne n, upd_ne (ne_of_none e npc), upd_ne n]; exact e
    clear hH4
    intro pk dk npk ndk nek
    have nki : upd H4 dk (.own pk) pk = none := by rw [upd_ne (fun z => nek z.symm)]; exact npk
    have sK : Same H4 (upd (upd H4 dk (.own pk)) pk (.ins CC dk [])) := (same_upd ndk).trans (same_upd nki)
    refine ⟨pk, dk, rfl, upd_same, fun H5 ps C5 nps5 b5 => ⟨rfl, ?_⟩⟩
    have kp5 : ∀ b o, H4 b = some o → H5 b = some o := fun b o e => b5 b o (sK b o e) (ne_of_none e npk)
    have ea5 := kp5 _ _ ea4
    obtain ⟨⟨dk5, q51⟩, q52⟩ := id C5
    have nps4 : H4 ps = none := by
      cases c : H4 ps with
      | none => rfl
      | some o => rw [sK ps o c] at nps5; cases nps5
    have ka : pk ≠ a := fun z => by rw [z, ea4] at npk; cases npk
    have kg : pk ≠ pg := fun z => by rw [z, eg4] at npk; cases npk
    have kc : pk ≠ pc := fun z => by rw [z, ec4] at npk; cases npk
    have sa : ps ≠ a := fun z => by rw [z, ea4] at nps4; cases nps4
    have sg : ps ≠ pg := fun z => by rw [z, eg4] at nps4; cases nps4
    have sc : ps ≠ pc := fun z => by rw [z, ec4] at nps4; cases nps4
    have sk : pk ≠ ps := C5.ne
    refine ⟨_, rfl, a, C, dx, _, rfl, ea5, TL.cl, TL.nK, sm l4 (by decide), ?_⟩
    have l5 := Nat.le_trans (putF_len "crowd" (.ref pk) _) (Nat.succ_le_succ l4)
    refine ⟨(by show 1 ≤ sizeLine; decide), fun pf npf => ?_⟩
    have fa : pf ≠ a := fun z => by rw [z, upd_same] at npf; cases npf
    rw [upd_ne fa] at npf
    have fk : pf ≠ pk := fun z => by rw [z, q51] at npf; cases npf
    have fs : pf ≠ ps := fun z => by rw [z, q52] at npf; cases npf
    have fg : pf ≠ pg := fun z => by rw [z, kp5 _ _ eg4] at npf; cases npf
    have fc : pf ≠ pc := fun z => by rw [z, kp5 _ _ ec4] at npf; cases npf
    refine ⟨_, rfl, a, C, dx, _, rfl, (by rw [upd_ne (fun z => fa z.symm), upd_same]), TL.cl, TL.nF, sm l5 (by decide), ?_⟩
    rw [lR_new]
    have back : ∀ b, b ≠ a → H5 b = none → H b = none := fun b n e => by
      cases c : H b with
      | none => rfl
      | some o => rw [kp5 b o (kp4 b o c n)] at e; cases e
    refine q _ [a, pc, pg, pk, ps, pf] ⟨dx, pc, pg, pk, ps, pf, rfl, ?_, upd_same, ?_, ?_, ⟨⟨dk5, ?_⟩, ?_⟩, ?_, wf_init⟩ (fun b hb => ?_) (fun b o e n => ?_)
    · simp only [List.nodup_cons, List.mem_cons, List.not_mem_nil, or_false, not_or]
      exact ⟨⟨fun z => ca z.symm, fun z => ga z.symm, fun z => ka z.symm, fun z => sa z.symm, fun z => fa z.symm⟩, ⟨fun z => gc z.symm, fun z => kc z.symm, fun z => sc z.symm, fun z => fc z.symm⟩, ⟨fun z => kg z.symm, fun z => sg z.symm, fun z => fg z.symm⟩, ⟨sk, fun z => fk z.symm⟩, fun z => fs z.symm, not_false, List.nodup_nil⟩
    · rw [upd_ne ca, upd_ne (fun z => fc z.symm), upd_ne ca]
      exact kp5 _ _ ec4
    · rw [upd_ne ga, upd_ne (fun z => fg z.symm), upd_ne ga]
      exact kp5 _ _ eg4
    · rw [upd_ne ka, upd_ne (fun z => fk z.symm), upd_ne ka]
      exact q51
    · rw [upd_ne sa, upd_ne (fun z => fs z.symm), upd_ne sa]
      exact q52
    · rw [upd_ne fa, upd_same, field_init]
      rfl
    · simp only [List.mem_cons, List.not_mem_nil, or_false] at hb
      rcases hb with rfl | rfl | rfl | rfl | rfl | rfl
      · exact .inl rfl
      · exact .inr npc
      · exact .inr npg
      · refine .inr ?_
        cases c : H b with
        | none => rfl
        | some o => rw [kp4 b o c ka] at npk; cases npk
      · refine .inr ?_
        cases c : H b with
        | none => rfl
        | some o => rw [kp4 b o c sa] at nps4; cases nps4
      · exact .inr (back b fa npf)
    · rw [upd_ne n]
      have e5 := kp5 b o (kp4 b o e n)
      rw [upd_ne (fun z => by rw [z, npf] at e5; cases e5), upd_ne n]
      exact e5
end
end Gf
set_option Elab.async false
set_option linter.all false
set_option maxRecDepth 100000
set_option maxHeartbeats 2000000
namespace Gf
open PySem PySem.Spec PyProof.Rows L2 LamX NdefX
/-! ### which call it is -/
theorem nz_inj {a b : Nat} (h : nz a = nz b) : a = b := by
  unfold nz at h
  omega
section
variable {c : Ge07.Call} {t : List Int}
theorem enc0 (h : enc c = nz 0 :: t) : ∃ w hh l, c = .map w hh l := by
  cases c <;> first | exact ⟨_, _, _, rfl⟩ | (injection h with h1 h2; exact absurd (show nz _ = nz _ from h1) (by decide))
theorem enc1 (h : enc c = nz 1 :: t) : ∃ p n, c = .set p n := by
  cases c <;> first | exact ⟨_, _, rfl⟩ | (injection h with h1 h2; exact absurd (show nz _ = nz _ from h1) (by decide))
theorem enc2 (h : enc c = nz 2 :: t) : ∃ p, c = .goal p := by
  cases c <;> first | exact ⟨_, rfl⟩ | (injection h with h1 h2; exact absurd (show nz _ = nz _ from h1) (by decide))
theorem enc3 (h : enc c = nz 3 :: t) : ∃ p, c = .noGoal p := by
  cases c <;> first | exact ⟨_, rfl⟩ | (injection h with h1 h2; exact absurd (show nz _ = nz _ from h1) (by decide))
theorem enc4 (h : enc c = nz 4 :: t) : ∃ p, c = .far p := by
  cases c <;> first | exact ⟨_, rfl⟩ | (injection h with h1 h2; exact absurd (show nz _ = nz _ from h1) (by decide))
theorem enc5 (h : enc c = nz 5 :: t) : c = .field := by
  cases c <;> first | rfl | (injection h with h1 h2; exact absurd (show nz _ = nz _ from h1) (by decide))
end
theorem get_drop {ns l : List Int} {i : Nat} (h : ns.drop i = l) (k : Nat) : ns[i + k]? = l[k]? := by
  rw [← h, List.getElem?_drop]
section
variable {P : Program} {w : World} {K : PySem.W.Frag} {mg : Str → Option Value} {base : Heap} {C CC CR : Addr} {T : List (Addr × Str)}
theorem done_of {H H1 : Hp} {la ra : Addr} {g : Ge07.House} {ft : List Addr} {ns : List Int} {i : Nat} {c : Ge07.Call} {Q : VK} (bt : But ra H H1) (R1 : RdAt K CR H1 ra ns (i + (enc c).tail.length)) (L1 : LandAt C CC H1 la g ft) (nra : ra ∉ ft)
    (k : ∀ (H' : Hp) (p : Addr) (ft' : List Addr), LandAt C CC H' la (Ge07.step g c).1 ft' → (∀ b ∈ ft', b ∈ ft ∨ Fresh H b) → RdAt K CR H' ra ns (i + (enc c).tail.length) →
      (∀ b o, H b = some o → b ∉ ft → b ≠ ra → (∀ ps, o ≠ .tbl ps) → H' b = some o) → Tabs T H' → Fresh H p → H' p = some (.lst ((Ge07.step g c).2.map V.int)) → Q (.ref p) H') : Done C CC T H1 la g ft c Q := by
  intro H' p ft' L' hft' kp' tb' frp ep
  obtain ⟨dx, pn, h1, hS, r⟩ := R1
  have back : ∀ b, Fresh H1 b → Fresh H b := fun b fb o e => by
    by_cases z : b = ra
    · exact absurd rfl (Fresh.ne (b := ra) (z ▸ fb) h1 fun _ z => by cases z)
    · exact fb o (bt b o e z)
  refine k H' p ft' L' (fun b hb => (hft' b hb).imp id (back b)) ⟨dx, pn, kp' ra _ h1 nra (fun _ z => by cases z), hS.to (fun b ob u z => kp' b _ z (fun m => ?_) (fun _ z => by cases z)), r⟩ (fun b o e nb nr nt => kp' b o (bt b o e nr) nb nt) tb' (back p frp) ep
  obtain ⟨o, eo, _, nf⟩ := (landOk C CC).there L1 b m
  rw [z] at eo
  cases eo
  exact nf _ _ rfl
theorem land_but {H H1 : Hp} {la ra : Addr} {g : Ge07.House} {ft : List Addr} (L : LandAt C CC H la g ft) (nra : ra ∉ ft) (bt : But ra H H1) : LandAt C CC H1 la g ft := (landOk C CC).frame L fun b hb => by
  obtain ⟨o, e, _⟩ := (landOk C CC).there L b hb
  rw [bt b o e (fun z => nra (z ▸ hb)), e]
/-- the reader's methods -/
structure RMeth (P : Program) (w : World) (K : PySem.W.Frag) (mg : Str → Option Value) (base : Heap) (CR : Addr) (fT fP fW : Addr) (fdT fdP fdW : FuncData) : Prop where
  gT : FnOk P w K mg base CX0 1 fT fdT ["self"] (spRTake K CR)
  bT : Binds K fdT ["self"] []
  mT : Meth K CR "take" fT
  gP : FnOk P w K mg base CX0 2 fP fdP ["self"] (spRPlace K CR)
  bP : Binds K fdP ["self"] []
  mP : Meth K CR "take_place" fP
  gW : FnOk P w K mg base CX0 2 fW fdW ["self"] (spRRow K CR)
  bW : Binds K fdW ["self"] []
  mW : Meth K CR "take_row" fW
variable {fT fP fW : Addr} {fdT fdP fdW : FuncData}
theorem tabs_rd {H H1 : Hp} {ra : Addr} {ns : List Int} {i : Nat} (tb : Tabs T H) (R : RdAt K CR H ra ns i) (bt : But ra H H1) : Tabs T H1 := by
  obtain ⟨dx, pn, h1, _⟩ := R
  exact tabs_but tb h1 (fun _ z => by cases z) (fun _ z => by cases z) bt
/-! ### call_set -/
abbrev sCallSet : Stmt := topS 32
theorem scCallSet : FnScope ["land", "reader", "place", "cost"] ["land", "reader"] (defScope sCallSet) := ⟨rfl, rfl, rfl, by decide +kernel, rfl, by decide +kernel, by decide +kernel⟩
theorem ok_callSet {f fM : Addr} {fd fdM : FuncData} {k : Nat} (F : Fun K "call_set" "call_set" sCallSet f fd) (TL : LTxt K mg C) (TR : RTxt K mg CR) (R : RMeth P w K mg base CR fT fP fW fdT fdP fdW)
    (GM : FnOk P w K mg base CX0 6 fM fdM ["self", "place", "cost"] (spSetCost C CC T)) (bM : Binds K fdM ["self", "place", "cost"] []) (mM : Meth K C "set_cost" fM) : FnOk P w K mg base CX0 (k + 7) f fd ["land", "reader"] (spCall (LandAt C CC) K CR T 1) := by
  have nd := scCallSet.nd
  refine F.ok scCallSet (fun vs H Q E h => ?_) (fun cdv A outer s H vs Q E hr h => ?_)
  · obtain ⟨la, ra, g, ft, ns, i, c, rest, rfl, _⟩ := h
    rfl
  · have hr1 : Room 1 _ := hr.mono (show 1 ≤ k + 6 by omega)
    have hr2 : Room 2 _ := hr.mono (show 2 ≤ k + 6 by omega)
    have hr6 : Room 6 _ := hr.mono (show 6 ≤ k + 6 by omega)
    refine ⟨_, pss_cons (ps_set (i := 2) nd rfl (.inl rfl) (pe_meth0 (pv 1) TR.cl R.mP R.gP hr2 R.bP .nil pass0)) (pss_cons (ps_set (i := 3) nd rfl (.inl rfl) (pe_meth0 (pv 1) TR.cl R.mT R.gT hr1 R.bT .nil pass0))
      (pss_one (ps_ret (pe_meth (pv 0) TL.cl mM GM hr6 bM .nil pass0 (pa_cons (pv 2) (pa_cons (pv 3) pa_nil)))))), ?_⟩
    obtain ⟨la, ra, g, ft, ns, i, c, rest, rfl, L, RR, nra, tb, ek, hf, hd, _, q⟩ := h
    obtain ⟨⟨x, y⟩, n, rfl⟩ := enc1 ek
    obtain ⟨dR, pR, hR, _⟩ := id RR
    refine ⟨_, rfl, ra, dR, _, rfl, hR, rF_none pR _ (by decide +kernel) (by decide +kernel), ra, ns, i, nz x, nz y, rfl, RR, get_drop hd 0, get_drop hd 1, fun H1 pp R1 b1 npp e1 => ?_⟩
    obtain ⟨dR1, pR1, hR1, _⟩ := id R1
    refine ⟨_, rfl, ra, dR1, _, rfl, hR1, rF_none pR1 _ (by decide +kernel) (by decide +kernel), ra, ns, i + 2, nz n, rfl, R1, get_drop hd 2, fun H2 R2 b2 => ?_⟩
    have L2 := land_but (land_but L nra b1) nra b2
    have e2 : H2 pp = some (.tup [.int (nz x), .int (nz y)]) := b2 pp _ e1 fun z => by rw [z, hR1] at e1; cases e1
    obtain ⟨dx, pc, pg, pk, ps, pf, eft, ndf, h1, _⟩ := id L2
    refine ⟨_, rfl, la, dx, _, rfl, h1, lR_no (by decide +kernel), _, rfl, _, rfl, la, pp, g, ft, x, y, n, rfl, L2, e2, tabs_rd (tabs_rd tb RR b1) R1 b2, done_of (b1.trans b2) R2 L2 nra q⟩
/-! ### call_goal, call_no_goal, call_far -/
abbrev sCallGoal : Stmt := topS 33
abbrev sCallNoGoal : Stmt := topS 34
abbrev sCallFar : Stmt := topS 35
theorem scCallGoal : FnScope ["land", "reader"] ["land", "reader"] (defScope sCallGoal) := ⟨rfl, rfl, rfl, by decide +kernel, rfl, by decide +kernel, by decide +kernel⟩
theorem scCallNoGoal : FnScope ["land", "reader"] ["land", "reader"] (defScope sCallNoGoal) := ⟨rfl, rfl, rfl, by decide +kernel, rfl, by decide +kernel, by decide +kernel⟩
theorem scCallFar : FnScope ["land", "reader"] ["land", "reader"] (defScope sCallFar) := ⟨rfl, rfl, rfl, by decide +kernel, rfl, by decide +kernel, by decide +kernel⟩
/-- land.m(reader.take_place()), what it asks -/
theorem pair_call {H : Hp} {Q : VK} {m : Str} {kn : Nat} {cc : Ge07.Place → Ge07.Call} {vs : List V} {E : XK} (hm : ((["wide", "high", "costs", "goals", "crowd", "field"] : List Str).all fun k => !(m == k)) = true) (hcc : ∀ c, enc c = nz kn :: (enc c).tail → ∃ p, c = cc p) (henc : ∀ x y, (enc (cc (x, y))).tail = [nz x, nz y])
    (h : spCall (LandAt C CC) K CR T kn vs H Q E) :
    tRet (tMeth C m (fun vs H Q _ => ∃ (a pp : Addr) (g : Ge07.House) (ft : List Addr) (x y : Nat), vs = [.ref a, .ref pp] ∧ LandAt C CC H a g ft ∧ H pp = some (.tup [.int x, .int y]) ∧ Tabs T H ∧ Done C CC T H a g ft (cc (x, y)) Q) [] E0 (tVar 0) (tCons (tMeth CR "take_place" (spRPlace K CR) [] E0 (tVar 1) tNil) tNil))
      { nx := fun _ H' => Q .non H', rt := Q } (start ["land", "reader"] vs) H := by
  obtain ⟨la, ra, g, ft, ns, i, c, rest, rfl, L, RR, nra, tb, ek, hf, hd, _, q⟩ := h
  obtain ⟨⟨x, y⟩, rfl⟩ := hcc c ek
  rw [henc] at hd q
  obtain ⟨dR, pR, hR, _⟩ := id RR
  obtain ⟨dx0, pc0, pg0, pk0, ps0, pf0, _, _, h0, _⟩ := id L
  refine ⟨_, rfl, la, dx0, _, rfl, h0, lR_no hm, _, rfl, ra, dR, _, rfl, hR, rF_none pR _ (by decide +kernel) (by decide +kernel), ra, ns, i, nz x, nz y, rfl, RR, get_drop hd 0, get_drop hd 1, fun H1 pp R1 b1 npp e1 => ?_⟩
  have L1 := land_but L nra b1
  refine ⟨la, pp, g, ft, x, y, rfl, L1, e1, tabs_rd tb RR b1, done_of (K := K) (CR := CR) (ns := ns) (i := i) b1 ?_ L1 nra ?_⟩
  · rw [henc]
    exact R1
  · rw [henc]
    exact q
theorem ok_callGoal {f fM : Addr} {fd fdM : FuncData} {k : Nat} (F : Fun K "call_goal" "call_goal" sCallGoal f fd) (TL : LTxt K mg C) (TR : RTxt K mg CR) (R : RMeth P w K mg base CR fT fP fW fdT fdP fdW)
    (GM : FnOk P w K mg base CX0 6 fM fdM ["self", "place"] (spAddGoal C CC T)) (bM : Binds K fdM ["self", "place"] []) (mM : Meth K C "add_goal" fM) : FnOk P w K mg base CX0 (k + 7) f fd ["land", "reader"] (spCall (LandAt C CC) K CR T 2) := by
  refine F.ok scCallGoal (fun vs H Q E h => ?_) (fun cdv A outer s H vs Q E hr h => ?_)
  · obtain ⟨la, ra, g, ft, ns, i, c, rest, rfl, _⟩ := h
    rfl
  · exact ⟨_, pss_one (ps_ret (pe_meth (pv 0) TL.cl mM GM (hr.mono (show 6 ≤ k + 6 by omega)) bM .nil pass0 (pa_cons (pe_meth0 (pv 1) TR.cl R.mP R.gP (hr.mono (show 2 ≤ k + 6 by omega)) R.bP .nil pass0) pa_nil))), pair_call (by decide +kernel) (fun c e => enc2 e) (fun _ _ => rfl) h⟩
theorem ok_callNoGoal {f fM : Addr} {fd fdM : FuncData} {k : Nat} (F : Fun K "call_no_goal" "call_no_goal" sCallNoGoal f fd) (TL : LTxt K mg C) (TR : RTxt K mg CR) (R : RMeth P w K mg base CR fT fP fW fdT fdP fdW)
    (GM : FnOk P w K mg base CX0 6 fM fdM ["self", "place"] (spDropGoal C CC T)) (bM : Binds K fdM ["self", "place"] []) (mM : Meth K C "drop_goal" fM) : FnOk P w K mg base CX0 (k + 7) f fd ["land", "reader"] (spCall (LandAt C CC) K CR T 3) := by
  refine F.ok scCallNoGoal (fun vs H Q E h => ?_) (fun cdv A outer s H vs Q E hr h => ?_)
  · obtain ⟨la, ra, g, ft, ns, i, c, rest, rfl, _⟩ := h
    rfl
  · exact ⟨_, pss_one (ps_ret (pe_meth (pv 0) TL.cl mM GM (hr.mono (show 6 ≤ k + 6 by omega)) bM .nil pass0 (pa_cons (pe_meth0 (pv 1) TR.cl R.mP R.gP (hr.mono (show 2 ≤ k + 6 by omega)) R.bP .nil pass0) pa_nil))), pair_call (by decide +kernel) (fun c e => enc3 e) (fun _ _ => rfl) h⟩
theorem ok_callFar {f fM : Addr} {fd fdM : FuncData} {k : Nat} (F : Fun K "call_far" "call_far" sCallFar f fd) (TL : LTxt K mg C) (TR : RTxt K mg CR) (R : RMeth P w K mg base CR fT fP fW fdT fdP fdW)
    (GM : FnOk P w K mg base CX0 6 fM fdM ["self", "place"] (spTellFar C CC T)) (bM : Binds K fdM ["self", "place"] []) (mM : Meth K C "tell_far" fM) : FnOk P w K mg base CX0 (k + 7) f fd ["land", "reader"] (spCall (LandAt C CC) K CR T 4) := by
  refine F.ok scCallFar (fun vs H Q E h => ?_) (fun cdv A outer s H vs Q E hr h => ?_)
  · obtain ⟨la, ra, g, ft, ns, i, c, rest, rfl, _⟩ := h
    rfl
  · exact ⟨_, pss_one (ps_ret (pe_meth (pv 0) TL.cl mM GM (hr.mono (show 6 ≤ k + 6 by omega)) bM .nil pass0 (pa_cons (pe_meth0 (pv 1) TR.cl R.mP R.gP (hr.mono (show 2 ≤ k + 6 by omega)) R.bP .nil pass0) pa_nil))), pair_call (by decide +kernel) (fun c e => enc4 e) (fun _ _ => rfl) h⟩
/-! ### call_field -/
abbrev sCallField : Stmt := topS 36
theorem scCallField : FnScope ["land", "reader"] ["land", "reader"] (defScope sCallField) := ⟨rfl, rfl, rfl, by decide +kernel, rfl, by decide +kernel, by decide +kernel⟩
theorem ok_callField {f fM : Addr} {fd fdM : FuncData} {k : Nat} (F : Fun K "call_field" "call_field" sCallField f fd) (TL : LTxt K mg C)
    (GM : FnOk P w K mg base CX0 2 fM fdM ["self"] (spTellField C CC T)) (bM : Binds K fdM ["self"] []) (mM : Meth K C "tell_field" fM) : FnOk P w K mg base CX0 (k + 7) f fd ["land", "reader"] (spCall (LandAt C CC) K CR T 5) := by
  refine F.ok scCallField (fun vs H Q E h => ?_) (fun cdv A outer s H vs Q E hr h => ?_)
  · obtain ⟨la, ra, g, ft, ns, i, c, rest, rfl, _⟩ := h
    rfl
  · refine ⟨_, pss_one (ps_ret (pe_meth0 (pv 0) TL.cl mM GM (hr.mono (show 2 ≤ k + 6 by omega)) bM .nil pass0)), ?_⟩
    obtain ⟨la, ra, g, ft, ns, i, c, rest, rfl, L, RR, nra, tb, ek, hf, hd, _, q⟩ := h
    obtain rfl := enc5 ek
    obtain ⟨dx0, pc0, pg0, pk0, ps0, pf0, _, _, h0, _⟩ := id L
    exact ⟨_, rfl, la, dx0, _, rfl, h0, lR_no (by decide +kernel), la, g, ft, rfl, L, tb, done_of (i := i) (fun b o e _ => e) RR L nra q⟩
/-! ### call_map -/
abbrev sCallMap : Stmt := topS 31
theorem scCallMap : FnScope ["land", "reader", "wide", "high", "costs"] ["land", "reader"] (defScope sCallMap) := ⟨rfl, rfl, rfl, by decide +kernel, rfl, by decide +kernel, by decide +kernel⟩
theorem ok_callMap {f fM : Addr} {fd fdM : FuncData} {k : Nat} (F : Fun K "call_map" "call_map" sCallMap f fd) (TL : LTxt K mg C) (TR : RTxt K mg CR) (R : RMeth P w K mg base CR fT fP fW fdT fdP fdW)
    (GM : FnOk P w K mg base CX0 6 fM fdM ["self", "wide", "high", "costs"] (spLayOut C CC T)) (bM : Binds K fdM ["self", "wide", "high", "costs"] []) (mM : Meth K C "lay_out" fM) : FnOk P w K mg base CX0 (k + 7) f fd ["land", "reader"] (spCall (LandAt C CC) K CR T 0) := by
  have nd := scCallMap.nd
  refine F.ok scCallMap (fun vs H Q E h => ?_) (fun cdv A outer s H vs Q E hr h => ?_)
  · obtain ⟨la, ra, g, ft, ns, i, c, rest, rfl, _⟩ := h
    rfl
  · have hr1 : Room 1 _ := hr.mono (show 1 ≤ k + 6 by omega)
    have hr2 : Room 2 _ := hr.mono (show 2 ≤ k + 6 by omega)
    have hr6 : Room 6 _ := hr.mono (show 6 ≤ k + 6 by omega)
    refine ⟨_, pss_cons (ps_set (i := 2) nd rfl (.inl rfl) (pe_meth0 (pv 1) TR.cl R.mT R.gT hr1 R.bT .nil pass0)) (pss_cons (ps_set (i := 3) nd rfl (.inl rfl) (pe_meth0 (pv 1) TR.cl R.mT R.gT hr1 R.bT .nil pass0))
      (pss_cons (ps_set (i := 4) nd rfl (.inl rfl) (pe_meth0 (pv 1) TR.cl R.mW R.gW hr2 R.bW .nil pass0)) (pss_one (ps_ret (pe_meth (pv 0) TL.cl mM GM hr6 bM .nil pass0 (pa_cons (pv 2) (pa_cons (pv 3) (pa_cons (pv 4) pa_nil)))))))), ?_⟩
    obtain ⟨la, ra, g, ft, ns, i, c, rest, rfl, L, RR, nra, tb, ek, hf, hd, _, q⟩ := h
    obtain ⟨wd, hg, cs, rfl⟩ := enc0 ek
    obtain ⟨dR, pR, hR, _⟩ := id RR
    refine ⟨_, rfl, ra, dR, _, rfl, hR, rF_none pR _ (by decide +kernel) (by decide +kernel), ra, ns, i, nz wd, rfl, RR, get_drop hd 0, fun H1 R1 b1 => ?_⟩
    obtain ⟨dR1, pR1, hR1, _⟩ := id R1
    refine ⟨_, rfl, ra, dR1, _, rfl, hR1, rF_none pR1 _ (by decide +kernel) (by decide +kernel), ra, ns, i + 1, nz hg, rfl, R1, get_drop hd 1, fun H2 R2 b2 => ?_⟩
    obtain ⟨dR2, pR2, hR2, _⟩ := id R2
    have ed : ns.drop (i + 3) = cs.map nz ++ rest := by
      have z : (ns.drop i).drop 3 = cs.map nz ++ rest := by
        rw [hd]
        rfl
      rw [List.drop_drop] at z
      exact z
    have le : i + 3 + cs.length ≤ ns.length := by
      have z := congrArg List.length ed
      rw [List.length_drop, List.length_append, List.length_map] at z
      obtain ⟨_, _, _, _, hle, _⟩ := R2
      have h2 := get_drop hd 2
      have h3 := (List.getElem?_eq_some_iff.mp (show ns[i + 2]? = some (nz cs.length) from h2)).1
      omega
    refine ⟨_, rfl, ra, dR2, _, rfl, hR2, rF_none pR2 _ (by decide +kernel) (by decide +kernel), ra, ns, i + 1 + 1, cs.length, rfl, R2, get_drop hd 2, by omega, fun H3 pr R3 b3 npr e3 => ?_⟩
    have L3 := land_but (land_but (land_but L nra b1) nra b2) nra b3
    obtain ⟨dx, pc, pg, pk, ps, pf, eft, ndf, h1, _⟩ := id L3
    have er : ((ns.drop (i + 1 + 1 + 1)).take cs.length).map V.int = nI cs := by
      rw [show ns.drop (i + 1 + 1 + 1) = cs.map nz ++ rest from ed, List.take_left' (List.length_map _), List.map_map]
      rfl
    rw [er] at e3
    have nprf : pr ∉ ft := fun z => by
      obtain ⟨o, eo, _⟩ := (landOk C CC).there (land_but (land_but L nra b1) nra b2) pr z
      rw [eo] at npr
      cases npr
    refine ⟨_, rfl, la, dx, _, rfl, h1, lR_no (by decide +kernel), _, rfl, _, rfl, _, rfl, la, pr, g, ft, wd, hg, cs, rfl, L3, e3, nprf, tabs_rd (tabs_rd (tabs_rd tb RR b1) R1 b2) R2 b3, hf, done_of (i := i) ((b1.trans b2).trans b3) ?_ L3 nra q⟩
    have el : i + (enc (.map wd hg cs)).tail.length = i + 1 + 1 + 1 + cs.length := by
      show i + ([nz wd, nz hg, nz cs.length] ++ cs.map nz).length = _
      rw [List.length_append, List.length_map]
      show i + (3 + cs.length) = _
      omega
    rw [el]
    exact R3
end
end Gf
set_option Elab.async false
set_option linter.all false
set_option maxRecDepth 100000
set_option maxHeartbeats 2000000
namespace Gf
open PySem PySem.Spec PyProof.Rows L2 LamX NdefX
theorem ints_V (l : List Nat) : (Ge07.ints l).map V.int = nI l := by
  unfold Ge07.ints nI
  rw [List.map_map]
  rfl
/-- a spot's place, as two numbers -/
def plN (w i : Nat) : List Nat := [i % w, i / w]
theorem pl_flat (w : Nat) (l : List Nat) : ((l.map (pl w)).flatMap fun q => [q.1, q.2]) = l.flatMap (plN w) := by
  rw [List.flatMap_map]
  rfl
theorem flat_next {l : List Nat} {f : Nat → List Nat} {i x : Nat} (h : l[i]? = some x) : (l.take (i + 1)).flatMap f = (l.take i).flatMap f ++ f x := by
  rw [take_next h, List.flatMap_append]
  congr 1
  exact List.append_nil _
theorem flat_len {f : Nat → List Nat} {k : Nat} (hf : ∀ x, (f x).length ≤ k) : ∀ l : List Nat, (l.flatMap f).length ≤ k * l.length
  | [] => Nat.zero_le _
  | a :: l => by
    rw [List.flatMap_cons, List.length_append, List.length_cons, Nat.mul_succ]
    have := flat_len hf l
    have := hf a
    omega
section
variable {P : Program} {w : World} {K : PySem.W.Frag} {mg : Str → Option Value} {base : Heap} {C CC CR : Addr} {T : List (Addr × Str)} {fS fSt fR fN : Addr} {fdS fdSt fdR fdN : FuncData}
theorem land_same {H H' : Hp} {a : Addr} {g : Ge07.House} {ft : List Addr} (L : LandAt C CC H a g ft) (s : Same H H') : LandAt C CC H' a g ft := (landOk C CC).frame L fun b hb => by
  obtain ⟨o, e, _⟩ := (landOk C CC).there L b hb
  rw [s b o e, e]
theorem land_ext {H H' : Hp} {a : Addr} {g : Ge07.House} {ft : List Addr} (L : LandAt C CC H a g ft) (s : ExtN H H') : LandAt C CC H' a g ft := (landOk C CC).frame L fun b hb => by
  obtain ⟨o, e, n, _⟩ := (landOk C CC).there L b hb
  rw [s b o e n, e]
/-- nothing was changed; the answer stands at p -/
theorem Done.keep {H H' : Hp} {a p : Addr} {g : Ge07.House} {ft : List Addr} {c : Ge07.Call} {Q : VK} {ans : List Int} (D : Done C CC T H a g ft c Q) (L : LandAt C CC H a g ft) (x : ExtN H H') (tb : Tabs T H') (fp : Fresh H p) (ep : H' p = some (.lst (ans.map V.int))) (e : Ge07.step g c = (g, ans)) : Q (.ref p) H' := by
  refine D H' p ft ?_ (fun b hb => .inl hb) (fun b o q _ nt => x b o q nt) tb fp ?_
  · rw [e]
    exact land_ext L x
  · rw [e]
    exact ep
/-! ### place_of -/
abbrev sPlaceOf : Stmt := inClass sLand 14
def spPlaceOf (C : Addr) : Sp := fun vs H Q _ => ∃ (a dx : Addr) (wd s : Nat) (hg pc pg pk pf : V), vs = [.ref a, .int s] ∧ H a = some (.ins C dx (lR (.int wd) hg pc pg pk pf)) ∧ 0 < wd ∧ wd ≤ 12 ∧
  ∀ p, H p = none → Q (.ref p) (upd H p (.lst (nI (plN wd s))))
theorem scPlaceOf : FnScope ["self", "spot"] ["self", "spot"] (defScope sPlaceOf) := ⟨rfl, rfl, rfl, by decide +kernel, rfl, by decide +kernel, by decide +kernel⟩
theorem ok_placeOf {f : Addr} {fd : FuncData} {k : Nat} (F : Fun K "place_of" "Land.place_of" sPlaceOf f fd) (TL : LTxt K mg C) : FnOk P w K mg base CX0 (k + 1) f fd ["self", "spot"] (spPlaceOf C) := by
  refine F.ok scPlaceOf (fun vs H Q E h => ?_) (fun cdv A outer s H vs Q E hr h => ⟨_, pss_one (ps_ret (pe_lst (pa_cons (pe_op op_modN (pv 1) (pe_fld (pv 0) rfl)) (pa_cons (pe_op op_fdivN (pv 1) (pe_fld (pv 0) rfl)) pa_nil)))), ?_⟩)
  · obtain ⟨a, dx, wd, s, hg, pc, pg, pk, pf, rfl, _⟩ := h
    rfl
  · obtain ⟨a, dx, wd, s, hg, pc, pg, pk, pf, rfl, h1, w0, w12, q⟩ := h
    have hwi : (wd : Int) ≠ 0 := by omega
    refine ⟨_, rfl, _, rfl, a, C, dx, _, _, rfl, h1, TL.cl, TL.nW, lR_wide, _, _, rfl, rfl, hwi, _, rfl, _, rfl, a, C, dx, _, _, rfl, h1, TL.cl, TL.nW, lR_wide, _, _, rfl, rfl, ⟨hwi, by omega⟩, (by show 2 ≤ sizeLine; decide), fun p np => ?_⟩
    show Q (.ref p) (upd H p (.lst [.int (Int.fmod (s : Int) (wd : Int)), .int (Int.fdiv (s : Int) (wd : Int))]))
    rw [fmod_nat, fdiv_nat]
    exact q p np
/-! ### the field if it cost that much -/
theorem mapOf_costs {g : Ge07.House} (wf : WF g) (cs : List Nat) : mapOf g.map.w g.map.h cs (gI g) = { g.map with costs := cs } := by
  have z := mapOf_gI wf
  unfold mapOf at z ⊢
  have e : (gI g).map (pl g.map.w) = g.map.goals := congrArg Ge07.Map.goals z
  rw [e]
abbrev sFieldIf : Stmt := inClass sLand 15
def spFieldIf (C CC : Addr) (T : List (Addr × Str)) : Sp := fun vs H Q _ => ∃ (a : Addr) (g : Ge07.House) (ft : List Addr) (s c : Nat), vs = [.ref a, .int s, .int c] ∧ LandAt C CC H a g ft ∧ s < g.map.w * g.map.h ∧ Tabs T H ∧
  ∀ H' p, ExtN H H' → Tabs T H' → H p = none → H' p = some (.lst (fV (Ge07.field { g.map with costs := g.map.costs.set s c }))) → Q (.ref p) H'
theorem scFieldIf : FnScope ["self", "spot", "cost", "costs"] ["self", "spot", "cost"] (defScope sFieldIf) := ⟨rfl, rfl, rfl, by decide +kernel, rfl, by decide +kernel, by decide +kernel⟩
theorem ok_fieldIf {f fR : Addr} {fd fdR : FuncData} {k : Nat} (F : Fun K "field_if" "Land.field_if" sFieldIf f fd) (TL : LTxt K mg C)
    (GR : FnOk P w K mg base CX0 4 fR fdR ["wide", "high", "costs", "goals"] (spReckonF K T)) (bR : Binds K fdR ["wide", "high", "costs", "goals"] []) (mR : mg "reckon_field" = some (.ref fR)) (kR : PySem.W.keepIn K (.ref fR) = true) (mLi : mg "list" = none) :
    FnOk P w K mg base CX0 (k + 5) f fd ["self", "spot", "cost"] (spFieldIf C CC T) := by
  have nd := scFieldIf.nd
  refine F.ok scFieldIf (fun vs H Q E h => ?_) (fun cdv A outer s H vs Q E hr h => ?_)
  · obtain ⟨a, g, ft, s, c, rfl, _⟩ := h
    rfl
  · have hr4 : Room 4 _ := hr.mono (show 4 ≤ k + 4 by omega)
    refine ⟨_, pss_cons (ps_set (i := 3) nd rfl (.inl rfl) (pe_callTy call_list_of (by rfl) mLi PyProof.Rows.boot_list (pa_cons (pe_fld (pv 0) rfl) pa_nil)))
      (pss_cons (ps_asg (pv 2) (pg_sub (pv 3) (pv 1) set_list))
      (pss_one (ps_ret (pe_call GR hr4 rfl mR kR bR .nil pass0 (pa_cons (pe_fld (pv 0) rfl) (pa_cons (pe_fld (pv 0) rfl) (pa_cons (pv 3) (pa_cons (pe_fld (pv 0) rfl) pa_nil)))))))), ?_⟩
    obtain ⟨a, g, ft, s, c, rfl, L, hs, tb, q⟩ := h
    obtain ⟨dx, pc, pg, pk, ps, pf, eft, ndf, h1, h2, h3, h4, h5, wf⟩ := id L
    refine ⟨_, rfl, a, C, dx, _, _, rfl, h1, TL.cl, TL.nC, lR_costs, pc, _, rfl, .inl (SqL.of h2), fun pl npl => ?_⟩
    refine ⟨_, rfl, _, rfl, _, rfl, pl, _, _, s, rfl, rfl, upd_same, ixN_at (by rw [nI_len, wf.len]; exact hs), ?_⟩
    rw [upd_upd, nI_set]
    have s1 : Same H (upd H pl (.lst (nI (g.map.costs.set s c)))) := same_upd npl
    have h1' := s1 _ _ h1
    refine ⟨_, rfl, a, C, dx, _, _, rfl, h1', TL.cl, TL.nW, lR_wide, _, rfl, a, C, dx, _, _, rfl, h1', TL.cl, TL.nH, lR_high, _, rfl, _, rfl, a, C, dx, _, _, rfl, h1', TL.cl, TL.nG, lR_goals, ?_⟩
    refine ⟨g.map.w, g.map.h, pl, pg, g.map.costs.set s c, gI g, rfl, SqL.of upd_same, SqL.of (s1 _ _ h3), by rw [List.length_set]; exact wf.len, wf.w0, wf.w12, wf.h12, gI_lt wf, (by unfold gI; rw [List.length_map]; exact wf.goals6), tb.ext s1, fun H1 p x1 t1 np e1 => ?_⟩
    rw [mapOf_costs wf] at e1
    exact q H1 p ((extN_of s1).trans x1) t1 (s1.free np) e1
/-! ### tell_next -/
abbrev sTellNext : Stmt := inClass sLand 8
abbrev sTellWay : Stmt := inClass sLand 7
theorem land_fld {H : Hp} {m : Ge07.House} {pc pf : Addr} (h2 : H pc = some (.lst (nI m.map.costs))) (h5 : H pf = some (.lst (fV (Ge07.field m.map)))) (wf : WF m) : FldAt K H m.map pc pf := ⟨SqL.of h2, SqL.of h5, wf.len, wf.w0, wf.w12, wf.h12⟩
def spTellNext (C CC : Addr) (T : List (Addr × Str)) : Sp := fun vs H Q _ => ∃ (a pp : Addr) (g : Ge07.House) (ft : List Addr) (x y : Nat), vs = [.ref a, .ref pp] ∧ LandAt C CC H a g ft ∧ H pp = some (.tup [.int x, .int y]) ∧ Tabs T H ∧ Done C CC T H a g ft (.next (x, y)) Q
theorem scTellNext : FnScope ["self", "place", "spot"] ["self", "place"] (defScope sTellNext) := ⟨rfl, rfl, rfl, by decide +kernel, rfl, by decide +kernel, by decide +kernel⟩
theorem ok_tellNext {f fP fX : Addr} {fd fdP fdX : FuncData} {k : Nat} (F : Fun K "tell_next" "Land.tell_next" sTellNext f fd) (TL : LTxt K mg C) (CO : Consts mg) (M : LMeth P w K mg base C CC T fS fSt fR fN fdS fdSt fdR fdN)
    (GP : FnOk P w K mg base CX0 1 fP fdP ["self", "spot"] (spPlaceOf C)) (bP : Binds K fdP ["self", "spot"] []) (mP : Meth K C "place_of" fP)
    (GX : FnOk P w K mg base CX0 2 fX fdX ["wide", "high", "costs", "field", "spot"] (spNextSpot K)) (bX : Binds K fdX ["wide", "high", "costs", "field", "spot"] []) (mX : mg "next_spot" = some (.ref fX)) (kX : PySem.W.keepIn K (.ref fX) = true) :
    FnOk P w K mg base CX0 (k + 6) f fd ["self", "place"] (spTellNext C CC T) := by
  obtain ⟨t1, c1⟩ := CO.notT
  obtain ⟨t2, c2⟩ := CO.nowh
  obtain ⟨t3, c3⟩ := CO.atg
  have nd := scTellNext.nd
  refine F.ok scTellNext (fun vs H Q E h => ?_) (fun cdv A outer s H vs Q E hr h => ?_)
  · obtain ⟨a, pp, g, ft, x, y, rfl, _⟩ := h
    rfl
  · have hr1 : Room 1 _ := hr.mono (show 1 ≤ k + 5 by omega)
    have hr2 : Room 2 _ := hr.mono (show 2 ≤ k + 5 by omega)
    refine ⟨_, pss_cons (ps_set (i := 2) nd rfl (.inl rfl) (pe_meth (pv 0) TL.cl M.mS M.gS hr1 M.bS .nil pass0 (pa_cons (pv 1) pa_nil)))
      (pss_cons (ps_if (pt_cmpR op_isN (pv 2) pe_non (nomark _)) (pss_one (ps_ret (pe_lst (pa_cons (pe_glob rfl c1 (rel_int _ _)) pa_nil)))) pss_nil)
      (pss_cons (ps_if (pt_cmpR op_isN (pe_ix ix_list (pe_fld (pv 0) rfl) (pv 2) (fun _ _ => rfl)) pe_non (nomark _)) (pss_one (ps_ret (pe_lst (pa_cons (pe_glob rfl c2 (rel_int _ _)) pa_nil)))) pss_nil)
      (pss_cons (ps_if (pt_cmpR op_eq (pe_ix ix_list (pe_fld (pv 0) rfl) (pv 2) (fun _ _ => rfl)) pe_int (nomark _)) (pss_one (ps_ret (pe_lst (pa_cons (pe_glob rfl c3 (rel_int _ _)) pa_nil)))) pss_nil)
      (pss_one (ps_ret (pe_meth (pv 0) TL.cl mP GP hr1 bP .nil pass0 (pa_cons (pe_call GX hr2 rfl mX kX bX .nil pass0 (pa_cons (pe_fld (pv 0) rfl) (pa_cons (pe_fld (pv 0) rfl) (pa_cons (pe_fld (pv 0) rfl) (pa_cons (pe_fld (pv 0) rfl) (pa_cons (pv 2) pa_nil)))))) pa_nil))))))), ?_⟩
    obtain ⟨a, pp, g, ft, x, y, rfl, L, hp, tb, D⟩ := h
    have L0 := L
    obtain ⟨dx, pc, pg, pk, ps, pf, eft, ndf, h1, h2, h3, h4, h5, wf⟩ := L
    refine ⟨_, rfl, a, dx, _, rfl, h1, lR_no (by decide +kernel), _, rfl, a, pp, g, ft, x, y, rfl, L0, hp, ?_⟩
    refine ⟨_, rfl, rfl, _, rfl, ?_⟩
    by_cases hin : Ge07.inside g.map (x, y) = true
    · have es : spotV g.map x y = .int ((ix g.map.w (x, y) : Nat) : Int) := if_pos hin
      have hin' : ¬ Ge07.inside g.map (x, y) = false := fun z => by rw [hin] at z; cases z
      have hix : ix g.map.w (x, y) < g.map.w * g.map.h := ix_lt (inside_iff.mp hin).1 (inside_iff.mp hin).2
      have hpl : pl g.map.w (ix g.map.w (x, y)) = (x, y) := pl_ix (inside_iff.mp hin).1
      have LF : FldAt K H g.map pc pf := land_fld h2 h5 wf
      have ea : Ge07.at_ g.map (Ge07.field g.map) (x, y) = fldOf g.map (ix g.map.w (x, y)) := at_fld hin
      have en : Ge07.next g.map (Ge07.field g.map) (x, y) = (nxt g.map (fldOf g.map) (ix g.map.w (x, y))).map (pl g.map.w) := by
        have z := next_pl (m := g.map) (F := Ge07.field g.map) hix
        rw [hpl] at z
        exact z
      rw [es]
      generalize ix g.map.w (x, y) = i at *
      refine if_f rfl ⟨_, rfl, a, C, dx, _, _, rfl, h1, TL.cl, TL.nF, lR_field, _, rfl, pf, _, _, _, rfl, rfl, SqL.of h5, LF.f hix, rfl, _, rfl, ?_⟩
      have est : Ge07.step g (.next (x, y)) = (g, match fldOf g.map i with | none => [-6] | some _ => match (nxt g.map (fldOf g.map) i).map (pl g.map.w) with | none => [-7] | some q => Ge07.ints [q.1, q.2]) := by
        show (g, if Ge07.inside g.map (x, y) = false then [-2] else match Ge07.at_ g.map (Ge07.field g.map) (x, y) with | none => [-6] | some _ => match Ge07.next g.map (Ge07.field g.map) (x, y) with | none => [-7] | some q => Ge07.ints [q.1, q.2]) = _
        rw [if_neg hin', ea, en]
      cases c : fldOf g.map i with
      | none =>
        rw [c] at est
        refine if_t rfl ⟨(by show 1 ≤ sizeLine; decide), fun p np => ?_⟩
        exact D.same (ans := [-6]) L0 tb (Same.refl H) np est
      | some d =>
        refine if_f rfl ⟨_, rfl, a, C, dx, _, _, rfl, h1, TL.cl, TL.nF, lR_field, _, rfl, pf, _, _, _, rfl, rfl, SqL.of h5, LF.f hix, ?_⟩
        rw [c]
        refine ⟨rfl, _, rfl, ?_⟩
        by_cases d0 : d = 0
        · subst d0
          have e0 : nxt g.map (fldOf g.map) i = none := by
            unfold nxt
            rw [c] <;> rfl
          rw [c, e0] at est
          refine if_t rfl ⟨(by show 1 ≤ sizeLine; decide), fun p np => ?_⟩
          exact D.same (ans := [-7]) L0 tb (Same.refl H) np est
        · obtain ⟨j, xx, ej, _, hj, _⟩ := nxt_some (fld_fix wf.w0) hix c (by omega)
          refine if_f (decide_eq_false fun z => d0 (by have z' : V.int (d : Int) = V.int 0 := z; injection z' with z'; omega)) ?_
          refine ⟨_, rfl, a, dx, _, rfl, h1, lR_no (by decide +kernel), _, rfl, a, C, dx, _, _, rfl, h1, TL.cl, TL.nW, lR_wide, _, rfl, a, C, dx, _, _, rfl, h1, TL.cl, TL.nH, lR_high, _, rfl, a, C, dx, _, _, rfl, h1, TL.cl, TL.nC, lR_costs, _, rfl, a, C, dx, _, _, rfl, h1, TL.cl, TL.nF, lR_field, _, rfl, ?_⟩
          refine ⟨g.map, pc, pf, i, d, rfl, LF, hix, c, by omega, fun H1 s1 => ?_⟩
          rw [ej]
          refine ⟨a, dx, g.map.w, j, _, _, _, _, _, rfl, s1 _ _ h1, wf.w0, wf.w12, fun p np => ?_⟩
          rw [c, ej] at est
          have z := D.same (ans := Ge07.ints [j % g.map.w, j / g.map.w]) L0 tb s1 np est
          rw [ints_V] at z
          exact z
    · have es : spotV g.map x y = .non := if_neg hin
      rw [es]
      refine if_t rfl ⟨(by show 1 ≤ sizeLine; decide), fun p np => ?_⟩
      refine D.same (ans := [-2]) L0 tb (Same.refl H) np ?_
      show (g, if Ge07.inside g.map (x, y) = false then [-2] else _) = _
      rw [if_pos]
      cases q : Ge07.inside g.map (x, y) with
      | false => rfl
      | true => exact absurd q hin
/-! ### tell_way -/
def spTellWay (C CC : Addr) (T : List (Addr × Str)) : Sp := fun vs H Q _ => ∃ (a pp : Addr) (g : Ge07.House) (ft : List Addr) (x y : Nat), vs = [.ref a, .ref pp] ∧ LandAt C CC H a g ft ∧ H pp = some (.tup [.int x, .int y]) ∧ Tabs T H ∧ Done C CC T H a g ft (.way (x, y)) Q
theorem scTellWay : FnScope ["self", "place", "spot", "spots", "told", "other"] ["self", "place"] (defScope sTellWay) := ⟨rfl, rfl, rfl, by decide +kernel, rfl, by decide +kernel, by decide +kernel⟩
theorem ok_tellWay {f fP fX : Addr} {fd fdP fdX : FuncData} {k : Nat} (F : Fun K "tell_way" "Land.tell_way" sTellWay f fd) (TL : LTxt K mg C) (CO : Consts mg) (M : LMeth P w K mg base C CC T fS fSt fR fN fdS fdSt fdR fdN)
    (GP : FnOk P w K mg base CX0 1 fP fdP ["self", "spot"] (spPlaceOf C)) (bP : Binds K fdP ["self", "spot"] []) (mP : Meth K C "place_of" fP)
    (GX : FnOk P w K mg base CX0 3 fX fdX ["wide", "high", "costs", "field", "spot"] (spWayTold K)) (bX : Binds K fdX ["wide", "high", "costs", "field", "spot"] []) (mX : mg "way_told" = some (.ref fX)) (kX : PySem.W.keepIn K (.ref fX) = true) (mL : mg "len" = none) :
    FnOk P w K mg base CX0 (k + 6) f fd ["self", "place"] (spTellWay C CC T) := by
  obtain ⟨t1, c1⟩ := CO.notT
  obtain ⟨t2, c2⟩ := CO.nowh
  have nd := scTellWay.nd
  refine F.ok scTellWay (fun vs H Q E h => ?_) (fun cdv A outer s H vs Q E hr h => ?_)
  · obtain ⟨a, pp, g, ft, x, y, rfl, _⟩ := h
    rfl
  · have hr1 : Room 1 _ := hr.mono (show 1 ≤ k + 5 by omega)
    have hr3 : Room 3 _ := hr.mono (show 3 ≤ k + 5 by omega)
    refine ⟨_, pss_cons (ps_set (i := 2) nd rfl (.inl rfl) (pe_meth (pv 0) TL.cl M.mS M.gS hr1 M.bS .nil pass0 (pa_cons (pv 1) pa_nil)))
      (pss_cons (ps_if (pt_cmpR op_isN (pv 2) pe_non (nomark _)) (pss_one (ps_ret (pe_lst (pa_cons (pe_glob rfl c1 (rel_int _ _)) pa_nil)))) pss_nil)
      (pss_cons (ps_if (pt_cmpR op_isN (pe_ix ix_list (pe_fld (pv 0) rfl) (pv 2) (fun _ _ => rfl)) pe_non (nomark _)) (pss_one (ps_ret (pe_lst (pa_cons (pe_glob rfl c2 (rel_int _ _)) pa_nil)))) pss_nil)
      (pss_cons (ps_set (i := 3) nd rfl (.inl rfl) (pe_call GX hr3 rfl mX kX bX .nil pass0 (pa_cons (pe_fld (pv 0) rfl) (pa_cons (pe_fld (pv 0) rfl) (pa_cons (pe_fld (pv 0) rfl) (pa_cons (pe_fld (pv 0) rfl) (pa_cons (pv 2) pa_nil)))))))
      (pss_cons (ps_set (i := 4) nd rfl (.inl rfl) (pe_lst (pa_cons (pe_ix ix_list (pe_fld (pv 0) rfl) (pv 2) (fun _ _ => rfl)) (pa_cons (pe_callB call_len_seq (by rfl) mL PySem.boot_len (pa_cons (pv 3) pa_nil)) pa_nil))))
      (pss_cons (ps_for PassesOwn.never rfl (pi_list (pv 3)) (pg_name (i := 5) nd rfl (.inl rfl)) (pss_one (ps_expr (pe_bm PySem.F.plainAttrs_list PySem.F.slot_list_extend PySem.F.type_list_extend mt_extend (pv 4) (pa_cons (pe_meth (pv 0) TL.cl mP GP hr1 bP .nil pass0 (pa_cons (pv 5) pa_nil)) pa_nil)))))
      (pss_one (ps_ret (pv 4)))))))), ?_⟩
    obtain ⟨a, pp, g, ft, x, y, rfl, L, hp, tb, D⟩ := h
    have L0 := L
    obtain ⟨dx, pc, pg, pk, ps, pf, eft, ndf, h1, h2, h3, h4, h5, wf⟩ := L
    refine ⟨_, rfl, a, dx, _, rfl, h1, lR_no (by decide +kernel), _, rfl, a, pp, g, ft, x, y, rfl, L0, hp, ?_⟩
    refine ⟨_, rfl, rfl, _, rfl, ?_⟩
    by_cases hin : Ge07.inside g.map (x, y) = true
    · have es : spotV g.map x y = .int ((ix g.map.w (x, y) : Nat) : Int) := if_pos hin
      have hin' : ¬ Ge07.inside g.map (x, y) = false := fun z => by rw [hin] at z; cases z
      have hix : ix g.map.w (x, y) < g.map.w * g.map.h := ix_lt (inside_iff.mp hin).1 (inside_iff.mp hin).2
      have hpl : pl g.map.w (ix g.map.w (x, y)) = (x, y) := pl_ix (inside_iff.mp hin).1
      have LF : FldAt K H g.map pc pf := land_fld h2 h5 wf
      have ea : Ge07.at_ g.map (Ge07.field g.map) (x, y) = fldOf g.map (ix g.map.w (x, y)) := at_fld hin
      rw [es]
      generalize ix g.map.w (x, y) = i at *
      refine if_f rfl ⟨_, rfl, a, C, dx, _, _, rfl, h1, TL.cl, TL.nF, lR_field, _, rfl, pf, _, _, _, rfl, rfl, SqL.of h5, LF.f hix, rfl, _, rfl, ?_⟩
      have est : Ge07.step g (.way (x, y)) = (g, match fldOf g.map i with | none => [-6] | some d => Ge07.ints ([d, (Ge07.way g.map (x, y)).length] ++ (Ge07.way g.map (x, y)).flatMap fun q => [q.1, q.2])) := by
        show (g, if Ge07.inside g.map (x, y) = false then [-2] else match Ge07.at_ g.map (Ge07.field g.map) (x, y) with | none => [-6] | some d => _) = _
        rw [if_neg hin', ea]
      cases c : fldOf g.map i with
      | none =>
        rw [c] at est
        refine if_t rfl ⟨(by show 1 ≤ sizeLine; decide), fun p np => ?_⟩
        exact D.same (ans := [-6]) L0 tb (Same.refl H) np est
      | some d =>
        obtain ⟨l, hW, ew, hl⟩ := way_told wf.w0 (fld_fix wf.w0) hix c
        rw [hpl] at ew
        have hbig : g.map.w * g.map.h ≤ 144 := Nat.mul_le_mul wf.w12 wf.h12
        rw [c, ew, List.length_map, pl_flat] at est
        refine if_f rfl ⟨_, rfl, a, C, dx, _, _, rfl, h1, TL.cl, TL.nW, lR_wide, _, rfl, a, C, dx, _, _, rfl, h1, TL.cl, TL.nH, lR_high, _, rfl, a, C, dx, _, _, rfl, h1, TL.cl, TL.nC, lR_costs, _, rfl, a, C, dx, _, _, rfl, h1, TL.cl, TL.nF, lR_field, _, rfl, ?_⟩
        refine ⟨g.map, pc, pf, i, l, rfl, LF, hix, hW, by omega, fun H1 pw s1 npw e1 => ?_⟩
        have h11 := s1 _ _ h1
        refine ⟨_, rfl, a, C, dx, _, _, rfl, h11, TL.cl, TL.nF, lR_field, _, rfl, pf, _, _, _, rfl, rfl, SqL.of (s1 _ _ h5), LF.f hix, _, rfl, pw, _, rfl, .inl (SqL.of e1), (by show 2 ≤ sizeLine; decide), fun pt npt => ?_⟩
        rw [c, nI_len]
        have npt0 : H pt = none := s1.free npt
        have nwt : pw ≠ pt := ne_of_none e1 npt
        refine ⟨_, rfl, pw, rfl, ⟨_, SqL.of (by rw [upd_ne nwt]; exact e1)⟩, for_list (K := K) (a := pw) (xs := nI l) (fun j σ H' => ∃ v : Option V, σ = [some (.ref a), some (.ref pp), some (.int i), some (.ref pw), some (.ref pt), v] ∧ Same H H' ∧ H' pw = some (.lst (nI l)) ∧ H' pt = some (.lst (nI ([d, l.length] ++ (l.take j).flatMap (plN g.map.w)))))
          ⟨none, rfl, s1.trans (same_upd npt), (by rw [upd_ne nwt]; exact e1), upd_same⟩ (fun j σ H' _ ⟨_, _, _, z, _⟩ => SqL.of z) ?_ ?_⟩
        · rintro j z σ H' hj ⟨v, rfl, s2, e2, e3⟩
          obtain ⟨o, ho, rfl⟩ := nI_mem hj
          have sz : (nI ([d, l.length] ++ (l.take j).flatMap (plN g.map.w))).length ≤ 500 := by
            rw [nI_len, List.length_append]
            have := flat_len (f := plN g.map.w) (k := 2) (fun _ => Nat.le_refl 2) (l.take j)
            rw [List.length_take] at this
            show 2 + _ ≤ 500
            omega
          refine ⟨_, rfl, .inl ⟨rfl, _, .inl (.inl e3)⟩, _, rfl, a, dx, _, rfl, s2 _ _ h1, lR_no (by decide +kernel), _, rfl, a, dx, g.map.w, o, _, _, _, _, _, rfl, s2 _ _ h1, wf.w0, wf.w12, fun p np => ?_⟩
          have nptp : pt ≠ p := ne_of_none e3 np
          have nwp : pw ≠ p := ne_of_none e2 np
          refine ⟨pt, p, _, _, rfl, rfl, (by rw [upd_ne nptp]; exact e3), upd_same, (by rw [nI_len (plN g.map.w o)]; show _ + 2 ≤ sizeLine; exact Nat.le_trans (Nat.add_le_add_right sz 2) (by decide)), some (.int (o : Nat)), rfl, fun b u e => ?_, ?_, ?_⟩
          · rw [upd_ne (ne_of_none e npt0)]
            exact (same_upd np) b u (s2 b u e)
          · rw [upd_ne nwt, upd_ne nwp]
            exact e2
          · rw [upd_same, flat_next ho, ← List.append_assoc, nI_app _ (plN g.map.w o)]
        · rintro σ H' ⟨v, rfl, s2, e2, e3⟩
          rw [nI_len, List.take_length] at e3
          exact ⟨_, rfl, D.keep (ans := Ge07.ints ([d, l.length] ++ l.flatMap (plN g.map.w))) L0 (extN_of s2) (tb.ext s2) (fresh_of npt0) (by rw [ints_V]; exact e3) est⟩
    · have es : spotV g.map x y = .non := if_neg hin
      rw [es]
      refine if_t rfl ⟨(by show 1 ≤ sizeLine; decide), fun p np => ?_⟩
      refine D.same (ans := [-2]) L0 tb (Same.refl H) np ?_
      show (g, if Ge07.inside g.map (x, y) = false then [-2] else _) = _
      rw [if_pos]
      cases q : Ge07.inside g.map (x, y) with
      | false => rfl
      | true => exact absurd q hin
end
end Gf
set_option Elab.async false
set_option linter.all false
set_option maxRecDepth 100000
set_option maxHeartbeats 2000000
namespace Gf
open PySem PySem.Spec PyProof.Rows L2 LamX NdefX
section
variable {P : Program} {w : World} {K : PySem.W.Frag} {mg : Str → Option Value} {base : Heap} {C CC CR : Addr} {T : List (Addr × Str)} {fS fSt fR fN : Addr} {fdS fdSt fdR fdN : FuncData}
theorem tabs_two {H H' : Hp} {a b : Addr} {u v : HO} (t : Tabs T H) (ha : H a = some u) (hb : H b = some v) (h1 : ∀ ps, u ≠ .tbl ps) (h2 : ∀ φ, u ≠ .ext φ) (h3 : ∀ ps, v ≠ .tbl ps) (h4 : ∀ φ, v ≠ .ext φ) (k : ∀ c, c ≠ a → c ≠ b → H' c = H c) : Tabs T H' := fun p hp => by
  obtain ⟨ps, e1, e2, e3⟩ := t p hp
  refine ⟨ps, ?_, e2, fun pos cv hc => ?_⟩
  · rw [k _ (fun z => by rw [z, ha] at e1; exact h1 _ (Option.some.inj e1)) (fun z => by rw [z, hb] at e1; exact h3 _ (Option.some.inj e1))]
    exact e1
  · obtain ⟨c, r1, r2⟩ := e3 pos cv hc
    refine ⟨c, r1, ?_⟩
    rw [k _ (fun z => by rw [z, ha] at r2; exact h2 _ (Option.some.inj r2)) (fun z => by rw [z, hb] at r2; exact h4 _ (Option.some.inj r2))]
    exact r2
theorem crI_new {g : Ge07.House} (wf : WF g) : ∀ b ∈ crI g, b.1 < g.given := fun b hb => by
  obtain ⟨a, ha, e⟩ := List.mem_map.mp hb
  rw [← e]
  exact wf.crowdNew a ha
theorem crI_len {g : Ge07.House} (wf : WF g) : (crI g).length ≤ 12 := by
  unfold crI toI
  rw [List.length_map]
  exact wf.crowd12
theorem crI_on {g : Ge07.House} (wf : WF g) : OnI g.map (crI g) := fun b hb => by
  obtain ⟨a, ha, e⟩ := List.mem_map.mp hb
  rw [← e]
  obtain ⟨h1, h2⟩ := inside_iff.mp (wf.crowdIn a ha)
  exact ix_lt h1 h2
theorem crI_dist {g : Ge07.House} (wf : WF g) : Dist (crI g) := by
  unfold crI toI Dist
  rw [List.pairwise_map]
  exact wf.crowdUp.imp fun {a b} h => Nat.ne_of_lt h
/-! ### put_figure -/
abbrev sPutFig : Stmt := inClass sLand 9
def spPutFig (C CC : Addr) (T : List (Addr × Str)) : Sp := fun vs H Q _ => ∃ (a pp : Addr) (g : Ge07.House) (ft : List Addr) (x y : Nat), vs = [.ref a, .ref pp] ∧ LandAt C CC H a g ft ∧ H pp = some (.tup [.int x, .int y]) ∧ Tabs T H ∧ Done C CC T H a g ft (.put (x, y)) Q
theorem scPutFig : FnScope ["self", "place", "spot"] ["self", "place"] (defScope sPutFig) := ⟨rfl, rfl, rfl, by decide +kernel, rfl, by decide +kernel, by decide +kernel⟩
theorem ok_putFig {f fH fO : Addr} {fd fdH fdO : FuncData} {k : Nat} (F : Fun K "put_figure" "Land.put_figure" sPutFig f fd) (TL : LTxt K mg C) (CO : Consts mg) (M : LMeth P w K mg base C CC T fS fSt fR fN fdS fdSt fdR fdN)
    (GH : FnOk P w K mg base CX0 1 fH fdH ["self"] (spHowMany CC)) (bH : Binds K fdH ["self"] []) (mH : Meth K CC "how_many" fH)
    (GO : FnOk P w K mg base CX0 1 fO fdO ["self", "spot"] (spPutOn CC)) (bO : Binds K fdO ["self", "spot"] []) (mO : Meth K CC "put_on" fO) :
    FnOk P w K mg base CX0 (k + 6) f fd ["self", "place"] (spPutFig C CC T) := by
  obtain ⟨t1, c1⟩ := CO.notT
  obtain ⟨t2, c2⟩ := CO.taken
  obtain ⟨t3, c3⟩ := CO.figs
  obtain ⟨t4, c4⟩ := CO.many
  have nd := scPutFig.nd
  refine F.ok scPutFig (fun vs H Q E h => ?_) (fun cdv A outer s H vs Q E hr h => ?_)
  · obtain ⟨a, pp, g, ft, x, y, rfl, _⟩ := h
    rfl
  · have hr1 : Room 1 _ := hr.mono (show 1 ≤ k + 5 by omega)
    refine ⟨_, pss_cons (ps_set (i := 2) nd rfl (.inl rfl) (pe_meth (pv 0) TL.cl M.mS M.gS hr1 M.bS .nil pass0 (pa_cons (pv 1) pa_nil)))
      (pss_cons (ps_if (pt_cmpR op_isN (pv 2) pe_non (nomark _)) (pss_one (ps_ret (pe_lst (pa_cons (pe_glob rfl c1 (rel_int _ _)) pa_nil)))) pss_nil)
      (pss_cons (ps_if (PW.pt (pw_or (pt_cmpR op_eq (pe_ix ix_list (pe_fld (pv 0) rfl) (pv 2) (fun _ _ => rfl)) pe_int (nomark _)) (pw_or1 (pt_val (pe_meth (pe_fld (pv 0) rfl) M.tk.cl M.mSt M.gSt hr1 M.bSt .nil pass0 (pa_cons (pv 2) pa_nil)))))) (pss_one (ps_ret (pe_lst (pa_cons (pe_glob rfl c2 (rel_int _ _)) pa_nil)))) pss_nil)
      (pss_cons (ps_if (pt_cmpR op_ge (pe_meth0 (pe_fld (pv 0) rfl) M.tk.cl mH GH hr1 bH .nil pass0) (pe_glob rfl c3 (rel_int _ _)) (nomark _)) (pss_one (ps_ret (pe_lst (pa_cons (pe_glob rfl c4 (rel_int _ _)) pa_nil)))) pss_nil)
      (pss_one (ps_ret (pe_lst (pa_cons (pe_meth (pe_fld (pv 0) rfl) M.tk.cl mO GO hr1 bO .nil pass0 (pa_cons (pv 2) pa_nil)) pa_nil))))))), ?_⟩
    obtain ⟨a, pp, g, ft, x, y, rfl, L, hp, tb, D⟩ := h
    have L0 := L
    obtain ⟨dx, pc, pg, pk, ps, pf, eft, ndf, h1, h2, h3, h4, h5, wf⟩ := L
    obtain ⟨⟨dk, hk1⟩, hk2⟩ := id h4
    refine ⟨_, rfl, a, dx, _, rfl, h1, lR_no (by decide +kernel), _, rfl, a, pp, g, ft, x, y, rfl, L0, hp, ?_⟩
    refine ⟨_, rfl, rfl, _, rfl, ?_⟩
    by_cases hin : Ge07.inside g.map (x, y) = true
    · have es : spotV g.map x y = .int ((ix g.map.w (x, y) : Nat) : Int) := if_pos hin
      have hin' : ¬ Ge07.inside g.map (x, y) = false := fun z => by rw [hin] at z; cases z
      have hix : ix g.map.w (x, y) < g.map.w * g.map.h := ix_lt (inside_iff.mp hin).1 (inside_iff.mp hin).2
      have LF : FldAt K H g.map pc pf := land_fld h2 h5 wf
      have eo : Ge07.open_ g.map (x, y) = decide (0 < ci g.map (ix g.map.w (x, y))) := by
        have z := costAt_pl (m := g.map) hix
        rw [pl_ix (inside_iff.mp hin).1] at z
        unfold Ge07.open_
        rw [z]
      have est0 : Ge07.step g (.put (x, y)) = (if Ge07.open_ g.map (x, y) = false ∨ (g.crowd.any fun a => a.2 == (x, y)) = true then (g, [-4]) else if 12 ≤ g.crowd.length then (g, [-5]) else ({ g with crowd := g.crowd ++ [(g.given, (x, y))], given := g.given + 1 }, Ge07.ints [g.given])) := by
        show (if Ge07.inside g.map (x, y) = false then (g, [-2]) else _) = _
        rw [if_neg hin']
      rw [es]
      have ecr : crI { g with crowd := g.crowd ++ [(g.given, (x, y))], given := g.given + 1 } = crI g ++ [(g.given, ix g.map.w (x, y))] := by
        unfold crI toI
        exact List.map_append
      have hst := stood_at wf hin
      refine if_f rfl ⟨_, rfl, a, C, dx, _, _, rfl, h1, TL.cl, TL.nC, lR_costs, _, rfl, pc, _, _, _, rfl, rfl, SqL.of h2, LF.c hix, rfl, _, rfl, ?_⟩
      by_cases c0 : ci g.map (ix g.map.w (x, y)) = 0
      · refine if_t (decide_eq_true (by rw [c0]; rfl)) ⟨(by show 1 ≤ sizeLine; decide), fun p np => ?_⟩
        refine D.same (ans := [-4]) L0 tb (Same.refl H) np ?_
        rw [est0, if_pos (.inl (by rw [eo]; exact decide_eq_false (by omega)))]
      · refine if_f (decide_eq_false fun z => c0 (by injection z with z; omega)) ?_
        refine ⟨_, rfl, a, C, dx, _, _, rfl, h1, TL.cl, TL.nK, lR_crowd, pk, dk, _, rfl, hk1, kR_no (by decide +kernel), _, rfl, pk, ps, crI g, g.given, ix g.map.w (x, y), rfl, h4, fun H1 s1 => ⟨_, rfl, ?_⟩⟩
        cases c1' : stoodI (crI g) (ix g.map.w (x, y)) with
        | true =>
          refine if_t rfl ⟨(by show 1 ≤ sizeLine; decide), fun p np => ?_⟩
          refine D.same (ans := [-4]) L0 tb s1 np ?_
          rw [est0, if_pos (.inr (by rw [← hst]; exact c1'))]
        | false =>
          have hno : ¬ (Ge07.open_ g.map (x, y) = false ∨ (g.crowd.any fun a => a.2 == (x, y)) = true) := by
            rintro (z | z)
            · rw [eo, decide_eq_true (by omega)] at z
              cases z
            · rw [← hst, c1'] at z
              cases z
          rw [if_neg hno] at est0
          have h4' := h4.same s1
          have hk1' := s1 _ _ hk1
          have hk2' := s1 _ _ hk2
          refine if_f rfl ⟨_, rfl, a, C, dx, _, _, rfl, s1 _ _ h1, TL.cl, TL.nK, lR_crowd, pk, dk, _, rfl, hk1', kR_no (by decide +kernel), pk, ps, crI g, g.given, rfl, h4', _, _, rfl, rfl, _, rfl, ?_⟩
          have ecl : (crI g).length = g.crowd.length := List.length_map _
          by_cases c12 : 12 ≤ g.crowd.length
          · refine if_t (decide_eq_true (by rw [ecl]; omega)) ⟨(by show 1 ≤ sizeLine; decide), fun p np => ?_⟩
            refine D.same (ans := [-5]) L0 tb s1 np ?_
            rw [est0, if_pos c12]
          · rw [if_neg c12] at est0
            refine if_f (decide_eq_false (by rw [ecl]; omega)) ?_
            refine ⟨_, rfl, a, C, dx, _, _, rfl, s1 _ _ h1, TL.cl, TL.nK, lR_crowd, pk, dk, _, rfl, hk1', kR_no (by decide +kernel), _, rfl, pk, ps, crI g, g.given, ix g.map.w (x, y), rfl, h4', crI_new wf, crI_len wf, fun H2 C2 k2 => ⟨(by show 1 ≤ sizeLine; decide), fun p np => ?_⟩⟩
            have wf' : WF { g with crowd := g.crowd ++ [(g.given, (x, y))], given := g.given + 1 } := by
              have z := wf_step wf (.put (x, y))
              rw [est0] at z
              exact z
            have ndf' := ndf
            rw [eft] at ndf'
            simp only [List.nodup_cons, List.mem_cons, List.not_mem_nil, or_false, not_or] at ndf'
            obtain ⟨⟨n1, n2, n3, m1, n4⟩, ⟨n5, n6, m2, n7⟩, ⟨n8, m3, n9⟩, ⟨m4, n10⟩, m5, _⟩ := ndf'
            obtain ⟨⟨dk2, q1⟩, q2⟩ := id C2
            have L2 : LandAt C CC H2 a { g with crowd := g.crowd ++ [(g.given, (x, y))], given := g.given + 1 } ft := by
              refine ⟨dx, pc, pg, pk, ps, pf, eft, ndf, ?_, ?_, ?_, ?_, ?_, wf'⟩
              · rw [k2 a n3 m1]; exact s1 _ _ h1
              · rw [k2 pc n6 m2]; exact s1 _ _ h2
              · rw [k2 pg n8 m3]; exact s1 _ _ h3
              · rw [ecr]; exact C2
              · rw [k2 pf (fun z => n10 z.symm) (fun z => m5 z.symm)]; exact s1 _ _ h5
            refine D.changed (g' := { g with crowd := g.crowd ++ [(g.given, (x, y))], given := g.given + 1 }) (ans := [((g.given : Nat) : Int)]) L2 (fun b hb => .inl hb) (fun b o e nb nt => ?_) (fun b hb => ?_) (tabs_two (tb.ext s1) hk1' hk2' (fun _ z => by cases z) (fun _ z => by cases z) (fun _ z => by cases z) (fun _ z => by cases z) k2) (Same.refl H2) np est0
            · rw [k2 b (fun z => nb (by rw [eft, z]; simp)) (fun z => nb (by rw [eft, z]; simp))]
              exact s1 b o e
            · obtain ⟨o, e, _⟩ := (landOk C CC).there L2 b hb
              exact ⟨o, e⟩
    · have es : spotV g.map x y = .non := if_neg hin
      rw [es]
      refine if_t rfl ⟨(by show 1 ≤ sizeLine; decide), fun p np => ?_⟩
      refine D.same (ans := [-2]) L0 tb (Same.refl H) np ?_
      show (if Ge07.inside g.map (x, y) = false then (g, [-2]) else _) = _
      rw [if_pos]
      cases q : Ge07.inside g.map (x, y) with
      | false => rfl
      | true => exact absurd q hin
/-! ### tell_crowd -/
abbrev sTellCrowd : Stmt := inClass sLand 11
def spTellCrowd (C CC : Addr) (T : List (Addr × Str)) : Sp := fun vs H Q _ => ∃ (a : Addr) (g : Ge07.House) (ft : List Addr), vs = [.ref a] ∧ LandAt C CC H a g ft ∧ Tabs T H ∧ Done C CC T H a g ft .crowd Q
theorem scTellCrowd : FnScope ["self", "told", "number", "spot"] ["self"] (defScope sTellCrowd) := ⟨rfl, rfl, rfl, by decide +kernel, rfl, by decide +kernel, by decide +kernel⟩
def oneN (w : Nat) (a : OneI) : List Nat := [a.1, a.2 % w, a.2 / w]
theorem flat_nextO {l : List OneI} {f : OneI → List Nat} {i : Nat} {x : OneI} (h : l[i]? = some x) : (l.take (i + 1)).flatMap f = (l.take i).flatMap f ++ f x := by
  rw [take_next h, List.flatMap_append]
  congr 1
  exact List.append_nil _
theorem flat_lenO {f : OneI → List Nat} {k : Nat} (hf : ∀ x, (f x).length ≤ k) : ∀ l : List OneI, (l.flatMap f).length ≤ k * l.length
  | [] => Nat.zero_le _
  | a :: l => by
    rw [List.flatMap_cons, List.length_append, List.length_cons, Nat.mul_succ]
    have := flat_lenO hf l
    have := hf a
    omega
theorem crowd_flat {g : Ge07.House} (wf : WF g) : (g.crowd.flatMap fun a => [a.1, a.2.1, a.2.2]) = (crI g).flatMap (oneN g.map.w) := by
  unfold crI toI
  rw [List.flatMap_map]
  have key : ∀ l : List Ge07.One, (∀ a ∈ l, Ge07.inside g.map a.2 = true) → (l.flatMap fun a => [a.1, a.2.1, a.2.2]) = l.flatMap fun a => oneN g.map.w (a.1, ix g.map.w a.2) := by
    intro l
    induction l with
    | nil => exact fun _ => rfl
    | cons a l ih =>
      intro h
      rw [List.flatMap_cons, List.flatMap_cons, ih fun b hb => h b (List.mem_cons_of_mem _ hb)]
      congr 1
      have e := pl_ix (w := g.map.w) (p := a.2) (inside_iff.mp (h a List.mem_cons_self)).1
      show [a.1, a.2.1, a.2.2] = [a.1, (pl g.map.w (ix g.map.w a.2)).1, (pl g.map.w (ix g.map.w a.2)).2]
      rw [e]
  exact key g.crowd wf.crowdIn
theorem ok_tellCrowd {f fH fP : Addr} {fd fdH fdP : FuncData} {k : Nat} (F : Fun K "tell_crowd" "Land.tell_crowd" sTellCrowd f fd) (TL : LTxt K mg C) (TK : KTxt K mg CC)
    (GH : FnOk P w K mg base CX0 1 fH fdH ["self"] (spHowMany CC)) (bH : Binds K fdH ["self"] []) (mH : Meth K CC "how_many" fH)
    (GP : FnOk P w K mg base CX0 1 fP fdP ["self", "spot"] (spPlaceOf C)) (bP : Binds K fdP ["self", "spot"] []) (mP : Meth K C "place_of" fP) :
    FnOk P w K mg base CX0 (k + 2) f fd ["self"] (spTellCrowd C CC T) := by
  have nd := scTellCrowd.nd
  refine F.ok scTellCrowd (fun vs H Q E h => ?_) (fun cdv A outer s H vs Q E hr h => ?_)
  · obtain ⟨a, g, ft, rfl, _⟩ := h
    rfl
  · have hr1 : Room 1 _ := hr.mono (show 1 ≤ k + 1 by omega)
    refine ⟨_, pss_cons (ps_set (i := 1) nd rfl (.inl rfl) (pe_lst (pa_cons (pe_meth0 (pe_fld (pv 0) rfl) TK.cl mH GH hr1 bH .nil pass0) pa_nil)))
      (pss_cons (ps_lock (ps_for PassesOwn.never rfl (pi_items (pe_fld (pe_fld (pv 0) rfl) rfl)) (pg_tup rfl (pgs_cons (pg_name (i := 2) nd rfl (.inl rfl)) (pgs_cons (pg_name (i := 3) nd rfl (.inl rfl)) pgs_nil)))
        (pss_cons (ps_expr (pe_bm PySem.F.plainAttrs_list PySem.F.slot_list_append PySem.F.type_list_append mt_append (pv 1) (pa_cons (pv 2) pa_nil)))
        (pss_one (ps_expr (pe_bm PySem.F.plainAttrs_list PySem.F.slot_list_extend PySem.F.type_list_extend mt_extend (pv 1) (pa_cons (pe_meth (pv 0) TL.cl mP GP hr1 bP .nil pass0 (pa_cons (pv 3) pa_nil)) pa_nil)))))))
      (pss_one (ps_ret (pv 1)))), ?_⟩
    obtain ⟨a, g, ft, rfl, L, tb, D⟩ := h
    have L0 := L
    obtain ⟨dx, pc, pg, pk, ps, pf, eft, ndf, h1, h2, h3, h4, h5, wf⟩ := L
    obtain ⟨⟨dk, hk1⟩, hk2⟩ := id h4
    have est : Ge07.step g .crowd = (g, Ge07.ints ((crI g).length :: (crI g).flatMap (oneN g.map.w))) := by
      show (g, Ge07.ints (g.crowd.length :: g.crowd.flatMap fun a => [a.1, a.2.1, a.2.2])) = _
      rw [crowd_flat wf, show (crI g).length = g.crowd.length from List.length_map _]
    have hl12 := crI_len wf
    refine ⟨_, rfl, a, C, dx, _, _, rfl, h1, TL.cl, TL.nK, lR_crowd, pk, dk, _, rfl, hk1, kR_no (by decide +kernel), pk, ps, crI g, g.given, rfl, h4, (by show 1 ≤ sizeLine; decide), fun pt npt => ?_⟩
    have s1 : Same H (upd H pt (.lst [.int ((crI g).length : Nat)])) := same_upd npt
    have nps : ps ≠ pt := ne_of_none hk2 npt
    have npk : pk ≠ pt := ne_of_none hk1 npt
    have npa : a ≠ pt := ne_of_none h1 npt
    have nak : a ≠ ps := ne_of h1 hk2 (by intro z; cases z)
    have nks : pk ≠ ps := ne_of hk1 hk2 (by intro z; cases z)
    generalize crI g = l at hk2 est hl12 s1 ⊢
    refine ⟨ps, .dK (figK l), s1 _ _ hk2, trivial, fun od => ?_⟩
    have ea : upd (upd H pt (.lst [.int (l.length : Nat)])) ps (.frz od (.dK (figK l))) a = some (.ins C dx (lR (.int g.map.w) (.int g.map.h) (.ref pc) (.ref pg) (.ref pk) (.ref pf))) := by rw [upd_ne nak]; exact s1 _ _ h1
    have ek : upd (upd H pt (.lst [.int (l.length : Nat)])) ps (.frz od (.dK (figK l))) pk = some (.ins CC dk (kR (.ref ps) (.int (g.given : Nat)))) := by rw [upd_ne nks]; exact s1 _ _ hk1
    have et : upd (upd H pt (.lst [.int (l.length : Nat)])) ps (.frz od (.dK (figK l))) pt = some (.lst (nI [l.length])) := by rw [upd_ne (fun z => nps z.symm), upd_same]; rfl
    have eps : upd (upd H pt (.lst [.int (l.length : Nat)])) ps (.frz od (.dK (figK l))) ps = some (.frz od (.dK (figK l))) := upd_same
    have kp : ∀ b o, H b = some o → b ≠ ps → upd (upd H pt (.lst [.int (l.length : Nat)])) ps (.frz od (.dK (figK l))) b = some o := fun b o e n => by rw [upd_ne n]; exact s1 b o e
    generalize upd (upd H pt (.lst [.int (l.length : Nat)])) ps (.frz od (.dK (figK l))) = H1 at ea ek et eps kp
    refine ⟨_, rfl, a, C, dx, _, _, rfl, ea, TL.cl, TL.nK, lR_crowd, pk, CC, dk, _, _, rfl, ek, TK.cl, TK.nS, kR_spots, ps, od, figK l, rfl, eps, ?_⟩
    refine for_it walk_items (fun i σ H' => ∃ v2 v3 : Option V, σ = [some (.ref a), some (.ref pt), v2, v3] ∧ (∀ b o, H1 b = some o → b ≠ pt → H' b = some o) ∧ H' pt = some (.lst (nI (l.length :: (l.take i).flatMap (oneN g.map.w)))))
      ⟨none, none, rfl, fun _ _ e _ => e, et⟩ (fun i σ H' _ ⟨_, _, _, z, _⟩ => z _ _ eps nps) ?_ ?_
    · rintro i x σ H' H'' hi ⟨v2, v3, rfl, k2, e2⟩ ⟨tp, vx, vy, rfl, ntp, rfl, ex, ey⟩
      obtain ⟨b, hb⟩ : ∃ b, l[i]? = some b := ⟨_, List.getElem?_eq_getElem (by rw [figK_len] at hi; exact hi)⟩
      have hkb : (figK l)[i]? = some (Sum.inl (b.1 : Int), V.int ((b.2 : Nat) : Int)) := by
        unfold figK
        rw [List.getElem?_map, hb]
        rfl
      dsimp only at ex ey
      rw [hkb] at ex ey
      obtain rfl : V.int ((b.1 : Nat) : Int) = vx := Option.some.inj ex
      obtain rfl : V.int ((b.2 : Nat) : Int) = vy := Option.some.inj ey
      have ntt : pt ≠ tp := ne_of_none e2 ntp
      have e3 : upd H' tp (.tup [.int ((b.1 : Nat) : Int), .int ((b.2 : Nat) : Int)]) pt = some (.lst (nI (l.length :: (l.take i).flatMap (oneN g.map.w)))) := by rw [upd_ne ntt]; exact e2
      have sz : (l.length :: (l.take i).flatMap (oneN g.map.w)).length ≤ 100 := by
        have := flat_lenO (f := oneN g.map.w) (k := 3) (fun _ => Nat.le_refl 3) (l.take i)
        rw [List.length_take] at this
        rw [List.length_cons]
        omega
      refine ⟨tp, _, rfl, SqT.of upd_same, rfl, _, _, rfl, _, _, rfl, rfl, ?_⟩
      refine ⟨_, rfl, .inl ⟨rfl, _, .inl (.inl e3)⟩, _, rfl, pt, _, _, rfl, rfl, e3, small1000 (by rw [nI_len]; omega), ?_⟩
      have k3 : ∀ c o, H1 c = some o → c ≠ pt → upd (upd H' tp (.tup [.int ((b.1 : Nat) : Int), .int ((b.2 : Nat) : Int)])) pt (.lst (nI (l.length :: (l.take i).flatMap (oneN g.map.w)) ++ [.int ((b.1 : Nat) : Int)])) c = some o := fun c o e n => by
        rw [upd_ne n, upd_ne (ne_of_none (k2 c o e n) ntp)]
        exact k2 c o e n
      have e4 : upd (upd H' tp (.tup [.int ((b.1 : Nat) : Int), .int ((b.2 : Nat) : Int)])) pt (.lst (nI (l.length :: (l.take i).flatMap (oneN g.map.w)) ++ [.int ((b.1 : Nat) : Int)])) pt = some (.lst (nI ((l.length :: (l.take i).flatMap (oneN g.map.w)) ++ [b.1]))) := by rw [upd_same, nI_app]; rfl
      generalize upd (upd H' tp (.tup [.int ((b.1 : Nat) : Int), .int ((b.2 : Nat) : Int)])) pt (.lst (nI (l.length :: (l.take i).flatMap (oneN g.map.w)) ++ [.int ((b.1 : Nat) : Int)])) = H3 at k3 e4
      have ea3 := k3 _ _ ea npa
      refine ⟨_, rfl, .inl ⟨rfl, _, .inl (.inl e4)⟩, _, rfl, a, dx, _, rfl, ea3, lR_no (by decide +kernel), _, rfl, a, dx, g.map.w, b.2, _, _, _, _, _, rfl, ea3, wf.w0, wf.w12, fun p np => ?_⟩
      have nptp : pt ≠ p := ne_of_none e4 np
      refine ⟨pt, p, _, _, rfl, rfl, (by rw [upd_ne nptp]; exact e4), upd_same, ?_, some (.int ((b.1 : Nat) : Int)), some (.int ((b.2 : Nat) : Int)), rfl, fun c o e n => ?_, ?_⟩
      · rw [nI_len, nI_len, List.length_append]
        show _ + 1 + 2 ≤ sizeLine
        exact Nat.le_trans (Nat.add_le_add_right (Nat.add_le_add_right sz 1) 2) (by decide)
      · rw [upd_ne n]
        exact (same_upd np) c o (k3 c o e n)
      · rw [upd_same, ← nI_app, flat_nextO hb]
        congr 3
        show _ = l.length :: ((l.take i).flatMap (oneN g.map.w) ++ oneN g.map.w b)
        rw [List.append_assoc]
        rfl
    · rintro σ H' ⟨v2, v3, rfl, k2, e2⟩
      rw [figK_len, List.take_length] at e2
      refine ⟨k2 _ _ eps nps, _, rfl, ?_⟩
      have x2 : ExtN H (upd H' ps (.dK (figK l))) := fun b o e n => by
        by_cases hb : b = ps
        · rw [hb, upd_same]
          rw [hb, hk2] at e
          exact e
        · rw [upd_ne hb]
          exact k2 b o (kp b o e hb) (ne_of_none e npt)
      refine D.keep (ans := Ge07.ints (l.length :: l.flatMap (oneN g.map.w))) L0 x2 (tb.ext fun b o e => ?_) (fresh_of npt) ?_ est
      · by_cases hb : b = ps
        · rw [hb, upd_same]
          rw [hb, hk2] at e
          exact e
        · rw [upd_ne hb]
          exact k2 b o (kp b o e hb) (ne_of_none e npt)
      · rw [ints_V, upd_ne (fun z => nps z.symm)]
        exact e2
end
end Gf
set_option Elab.async false
set_option linter.all false
set_option maxRecDepth 100000
set_option maxHeartbeats 2000000
namespace Gf
open PySem PySem.Spec PyProof.Rows L2 LamX NdefX
section
variable {P : Program} {w : World} {K : PySem.W.Frag} {mg : Str → Option Value} {base : Heap} {C CC CR : Addr} {T : List (Addr × Str)} {fS fSt fR fN : Addr} {fdS fdSt fdR fdN : FuncData}
/-! ### tell_changed -/
abbrev sTellChg : Stmt := inClass sLand 12
def spTellChg (C CC : Addr) (T : List (Addr × Str)) : Sp := fun vs H Q _ => ∃ (a pp : Addr) (g : Ge07.House) (ft : List Addr) (x y c : Nat), vs = [.ref a, .ref pp, .int c] ∧ LandAt C CC H a g ft ∧ H pp = some (.tup [.int x, .int y]) ∧ Tabs T H ∧ Done C CC T H a g ft (.changed (x, y) c) Q
abbrev nTellChg : List Str := ["self", "place", "cost", "spot", "field", "other", "others", "told"]
theorem scTellChg : FnScope nTellChg ["self", "place", "cost"] (defScope sTellChg) := ⟨rfl, rfl, rfl, by decide +kernel, rfl, by decide +kernel, by decide +kernel⟩
def chgN (w : Nat) (D' : Nat → Option Nat) (i : Nat) : List Nat := [i % w, i / w, Ge07.optRow (D' i)]
theorem ne_V (a b : Option Nat) : scal (oV a) (oV b) = true ∧ (!decide (oV a = oV b)) = (b != a) := by
  cases a with
  | none =>
    cases b with
    | none => exact ⟨rfl, rfl⟩
    | some y => exact ⟨rfl, rfl⟩
  | some x =>
    cases b with
    | none => exact ⟨rfl, rfl⟩
    | some y =>
      refine ⟨rfl, ?_⟩
      by_cases e : x = y
      · rw [e, decide_eq_true rfl]
        symm
        exact bne_self_eq_false _
      · rw [decide_eq_false (fun z => e (by have z' : V.int (x : Int) = V.int (y : Int) := z; injection z' with z'; omega))]
        symm
        exact bne_iff_ne.mpr fun z => e (Option.some.inj z).symm
theorem chg_flat {m : Ge07.Map} {F' : Ge07.Field} {D' : Nat → Option Nat} (eF' : F' = (List.range (m.w * m.h)).map D') : ∀ l : List Nat, (∀ i ∈ l, i < m.w * m.h) → ((l.map (pl m.w)).flatMap fun q => [q.1, q.2, Ge07.optRow (Ge07.at_ m F' q)]) = l.flatMap (chgN m.w D')
  | [], _ => rfl
  | i :: l, h => by
    rw [List.map_cons, List.flatMap_cons, List.flatMap_cons, chg_flat eF' l fun j hj => h j (List.mem_cons_of_mem _ hj)]
    congr 1
    have hi := h i List.mem_cons_self
    have e := at_D (D := D') eF' (pl_inside (m := m) hi)
    rw [ix_pl] at e
    show [(pl m.w i).1, (pl m.w i).2, Ge07.optRow (Ge07.at_ m F' (pl m.w i))] = _
    rw [e]
    rfl
theorem fld_range {m : Ge07.Map} (hw : 0 < m.w) : Ge07.field m = (List.range (m.w * m.h)).map (fldOf m) := field_of_fix hw (fld_fix hw)
theorem ok_tellChg {f fP fI fF : Addr} {fd fdP fdI fdF : FuncData} {k : Nat} (F : Fun K "tell_changed" "Land.tell_changed" sTellChg f fd) (TL : LTxt K mg C) (CO : Consts mg) (M : LMeth P w K mg base C CC T fS fSt fR fN fdS fdSt fdR fdN)
    (GP : FnOk P w K mg base CX0 1 fP fdP ["self", "spot"] (spPlaceOf C)) (bP : Binds K fdP ["self", "spot"] []) (mP : Meth K C "place_of" fP)
    (GI : FnOk P w K mg base CX0 5 fI fdI ["self", "spot", "cost"] (spFieldIf C CC T)) (bI : Binds K fdI ["self", "spot", "cost"] []) (mI : Meth K C "field_if" fI)
    (GF : FnOk P w K mg base CX0 1 fF fdF ["far"] spToldFar) (bF : Binds K fdF ["far"] []) (mF : mg "told_far" = some (.ref fF)) (kF : PySem.W.keepIn K (.ref fF) = true) (mL : mg "len" = none) (mRg : mg "range" = none) :
    FnOk P w K mg base CX0 (k + 6) f fd ["self", "place", "cost"] (spTellChg C CC T) := by
  obtain ⟨t1, c1⟩ := CO.dear
  obtain ⟨t2, c2⟩ := CO.bad
  obtain ⟨t3, c3⟩ := CO.notT
  have nd := scTellChg.nd
  refine F.ok scTellChg (fun vs H Q E h => ?_) (fun cdv A outer s H vs Q E hr h => ?_)
  · obtain ⟨a, pp, g, ft, x, y, c, rfl, _⟩ := h
    rfl
  · have hr1 : Room 1 _ := hr.mono (show 1 ≤ k + 5 by omega)
    have hr5 : Room 5 _ := hr.mono (show 5 ≤ k + 5 by omega)
    refine ⟨_, pss_cons (ps_if (pt_cmpR op_gt (pv 2) (pe_glob rfl c1 (rel_int _ _)) (nomark _)) (pss_one (ps_ret (pe_lst (pa_cons (pe_glob rfl c2 (rel_int _ _)) pa_nil)))) pss_nil)
      (pss_cons (ps_set (i := 3) nd rfl (.inl rfl) (pe_meth (pv 0) TL.cl M.mS M.gS hr1 M.bS .nil pass0 (pa_cons (pv 1) pa_nil)))
      (pss_cons (ps_if (pt_cmpR op_isN (pv 3) pe_non (nomark _)) (pss_one (ps_ret (pe_lst (pa_cons (pe_glob rfl c3 (rel_int _ _)) pa_nil)))) pss_nil)
      (pss_cons (ps_set (i := 4) nd rfl (.inr rfl) (pe_meth (pv 0) TL.cl mI GI hr5 bI .nil pass0 (pa_cons (pv 3) (pa_cons (pv 2) pa_nil))))
      (pss_cons (ps_setLc (i := 6) (own := [("other", 5)]) (g := gName 5) rfl nd rfl rfl (sw_true rfl rfl rfl (by decide +kernel)) (pi_range1 rfl mRg (pa_cons (pe_callB call_len_seq (by rfl) mL PySem.boot_len (pa_cons (pv 4) pa_nil)) pa_nil)) (blkOk_by (N := nTellChg) (sc := defScope sTellChg) (by decide +kernel)) (fun _ _ _ _ _ => pg_name (i := 5) nd rfl (Or.inl rfl))
        (fun _ _ _ _ _ => pts_one (pt_cmpR op_ne (pe_ix (ixL (K := K)) (pv 4) (pv 5) (fun _ _ => rfl)) (pe_ix (ixL (K := K)) (pe_fldK (K := K) (pv 0) rfl) (pv 5) (fun _ _ => rfl)) (nomark _))) (fun _ _ _ _ _ => pv 5))
      (pss_cons (ps_set (i := 7) nd rfl (.inl rfl) (pe_lst (pa_cons (pe_callB call_len_seq (by rfl) mL PySem.boot_len (pa_cons (pv 6) pa_nil)) pa_nil)))
      (pss_cons (ps_for PassesOwn.never rfl (pi_list (pv 6)) (pg_name (i := 5) nd rfl (.inl rfl))
        (pss_cons (ps_expr (pe_bm PySem.F.plainAttrs_list PySem.F.slot_list_extend PySem.F.type_list_extend mt_extend (pv 7) (pa_cons (pe_meth (pv 0) TL.cl mP GP hr1 bP .nil pass0 (pa_cons (pv 5) pa_nil)) pa_nil)))
        (pss_one (ps_expr (pe_bm PySem.F.plainAttrs_list PySem.F.slot_list_append PySem.F.type_list_append mt_append (pv 7) (pa_cons (pe_call GF hr1 rfl mF kF bF .nil pass0 (pa_cons (pe_ix ix_list (pv 4) (pv 5) (fun _ _ => rfl)) pa_nil)) pa_nil))))))
      (pss_one (ps_ret (pv 7))))))))), ?_⟩
    obtain ⟨a, pp, g, ft, x, y, c, rfl, L, hp, tb, D⟩ := h
    have L0 := L
    obtain ⟨dx, pc, pg, pk, ps, pf, eft, ndf, h1, h2, h3, h4, h5, wf⟩ := L
    refine ⟨_, rfl, _, _, rfl, rfl, _, rfl, ?_⟩
    by_cases b1 : 99 < c
    · refine if_t (decide_eq_true (by omega)) ⟨(by show 1 ≤ sizeLine; decide), fun p np => ?_⟩
      refine D.same (ans := [-1]) L0 tb (Same.refl H) np ?_
      show (g, if 99 < c then [-1] else _) = _
      rw [if_pos b1]
    refine if_f (decide_eq_false (by omega)) ?_
    refine ⟨_, rfl, a, dx, _, rfl, h1, lR_no (by decide +kernel), _, rfl, a, pp, g, ft, x, y, rfl, L0, hp, ?_⟩
    refine ⟨_, rfl, rfl, _, rfl, ?_⟩
    by_cases hin : Ge07.inside g.map (x, y) = true
    · have es : spotV g.map x y = .int ((ix g.map.w (x, y) : Nat) : Int) := if_pos hin
      have hin' : ¬ Ge07.inside g.map (x, y) = false := fun z => by rw [hin] at z; cases z
      have hix : ix g.map.w (x, y) < g.map.w * g.map.h := ix_lt (inside_iff.mp hin).1 (inside_iff.mp hin).2
      have eset : Ge07.setCost g.map (x, y) c = { g.map with costs := g.map.costs.set (ix g.map.w (x, y)) c } := rfl
      rw [es]
      generalize ix g.map.w (x, y) = i at *
      refine if_f rfl ⟨_, rfl, a, dx, _, rfl, h1, lR_no (by decide +kernel), _, rfl, _, rfl, a, g, ft, i, c, rfl, L0, hix, tb, fun H1 pn x1 tb1 npn e1 => ?_⟩
      generalize hm' : ({ g.map with costs := g.map.costs.set i c } : Ge07.Map) = m' at *
      have ew : m'.w = g.map.w := by rw [← hm']
      have eh : m'.h = g.map.h := by rw [← hm']
      have hw0 := wf.w0
      have eF : Ge07.field g.map = (List.range (g.map.w * g.map.h)).map (fldOf g.map) := fld_range hw0
      have eF' : Ge07.field m' = (List.range (g.map.w * g.map.h)).map (fldOf m') := by
        have z := fld_range (m := m') (by rw [ew]; exact hw0)
        rw [ew, eh] at z
        exact z
      have hlen' : (Ge07.field m').length = g.map.w * g.map.h := by rw [eF', List.length_map, List.length_range]
      have hbig : g.map.w * g.map.h ≤ 144 := Nat.mul_le_mul wf.w12 wf.h12
      have est : Ge07.step g (.changed (x, y) c) = (g, Ge07.ints (((List.range (g.map.w * g.map.h)).filter fun j => fldOf g.map j != fldOf m' j).length :: ((List.range (g.map.w * g.map.h)).filter fun j => fldOf g.map j != fldOf m' j).flatMap (chgN g.map.w (fldOf m')))) := by
        show (g, if 99 < c then [-1] else if Ge07.inside g.map (x, y) = false then [-2] else Ge07.ints (((Ge07.places g.map).filter fun q => Ge07.at_ g.map (Ge07.field g.map) q != Ge07.at_ g.map (Ge07.field (Ge07.setCost g.map (x, y) c)) q).length :: ((Ge07.places g.map).filter fun q => Ge07.at_ g.map (Ge07.field g.map) q != Ge07.at_ g.map (Ge07.field (Ge07.setCost g.map (x, y) c)) q).flatMap fun q => [q.1, q.2, Ge07.optRow (Ge07.at_ g.map (Ge07.field (Ge07.setCost g.map (x, y) c)) q)])) = _
        rw [if_neg b1, if_neg hin', eset, changed_I hw0 eF eF', List.length_map, chg_flat eF' _ (fun j hj => List.mem_range.mp (List.mem_filter.mp hj).1)]
      have h11 := x1 _ _ h1 (fun _ z => by cases z)
      have h51 := x1 _ _ h5 (fun _ z => by cases z)
      have npn1 : pn ≠ pf := fun z => by rw [z, h5] at npn; cases npn
      have gF : ∀ {j : Nat}, j < g.map.w * g.map.h → atI (fV (Ge07.field g.map)) ((j : Nat) : Int) = some (oV (fldOf g.map j)) := fun hj => atI_nat (fV_get (by rw [field_len hw0]; exact hj))
      have gF' : ∀ {j : Nat}, j < g.map.w * g.map.h → atI (fV (Ge07.field m')) ((j : Nat) : Int) = some (oV (fldOf m' j)) := fun hj => atI_nat (fV_get (by rw [hlen']; exact hj))
      -- others
      refine ⟨_, rfl, pn, _, rfl, .inl (SqL.of e1), ((g.map.w * g.map.h : Nat) : Int), (by rw [fV_len, hlen']), (by omega), (by omega), fun Do nDo => ?_⟩
      rw [show ((g.map.w * g.map.h : Nat) : Int).toNat = g.map.w * g.map.h from Int.toNat_natCast _]
      refine lc_range (lo := 0) (n := g.map.w * g.map.h) (fun j H' => Same H1 H' ∧ H' Do = some (.lst (nI (((List.range (g.map.w * g.map.h)).take j).filter fun j => fldOf g.map j != fldOf m' j)))) ⟨same_upd nDo, upd_same⟩ ?_ ?_
      · rintro j H' hj ⟨s2, e2⟩
        rw [show (0 : Int) + ((j : Nat) : Int) = ((j : Nat) : Int) from Int.zero_add _]
        have hr' : (List.range (g.map.w * g.map.h))[j]? = some j := List.getElem?_range hj
        have sz : (nI (((List.range (g.map.w * g.map.h)).take j).filter fun j => fldOf g.map j != fldOf m' j)).length < sizeLine := by
          rw [nI_len]
          refine small1000 (Nat.le_trans (filt_len _ _ _) ?_)
          rw [List.length_range]
          omega
        refine ⟨rfl, _, rfl, _, rfl, pn, _, _, _, rfl, rfl, SqL.of (s2 _ _ e1), gF' hj, _, rfl, a, C, dx, _, _, rfl, s2 _ _ h11, TL.cl, TL.nF, lR_field, _, rfl, pf, _, _, _, rfl, rfl, SqL.of (s2 _ _ h51), gF hj, (ne_V _ _).1, _, rfl, ?_⟩
        rw [(ne_V _ _).2]
        cases cc : (fldOf g.map j != fldOf m' j) with
        | false =>
          refine if_f rfl ⟨s2, ?_⟩
          rw [filt_no hr' cc]
          exact e2
        | true =>
          refine if_t rfl ⟨_, rfl, _, e2, sz, fun b o e => ?_, ?_⟩
          · rw [upd_ne (ne_of_none e nDo)]
            exact s2 b o e
          · rw [upd_same, filt_yes hr' cc, nI_app]
            rfl
      · rintro H2 ⟨s2, e2⟩
        rw [List.take_of_length_le (by rw [List.length_range]; exact Nat.le_refl _)] at e2
        have hls : ∀ j ∈ (List.range (g.map.w * g.map.h)).filter fun j => fldOf g.map j != fldOf m' j, j < g.map.w * g.map.h := fun j hj => List.mem_range.mp (List.mem_filter.mp hj).1
        have hll : ((List.range (g.map.w * g.map.h)).filter fun j => fldOf g.map j != fldOf m' j).length ≤ 144 := by
          refine Nat.le_trans (List.length_filter_le _ _) ?_
          rw [List.length_range]
          exact hbig
        generalize ((List.range (g.map.w * g.map.h)).filter fun j => fldOf g.map j != fldOf m' j) = ls at e2 hls hll est
        refine ⟨_, rfl, Do, _, rfl, .inl (SqL.of e2), (by show 1 ≤ sizeLine; decide), fun pt npt => ?_⟩
        rw [nI_len]
        have x2 : ExtN H H2 := x1.trans (extN_of s2)
        have npt1 : H1 pt = none := s2.free npt
        have not : Do ≠ pt := ne_of_none e2 npt
        have nnt : pn ≠ pt := ne_of_none (s2 _ _ e1) npt
        refine ⟨_, rfl, Do, rfl, ⟨_, SqL.of (by rw [upd_ne not]; exact e2)⟩, for_list (K := K) (a := Do) (xs := nI ls) (fun j σ H' => ∃ v : Option V, σ = [some (.ref a), some (.ref pp), some (.int (c : Nat)), some (.int (i : Nat)), some (.ref pn), v, some (.ref Do), some (.ref pt)] ∧ Same H2 H' ∧ H' pt = some (.lst (nI (ls.length :: (ls.take j).flatMap (chgN g.map.w (fldOf m'))))))
          ⟨none, rfl, same_upd npt, upd_same⟩ (fun j σ H' _ ⟨_, _, z, _⟩ => SqL.of (z _ _ e2)) ?_ ?_⟩
        · rintro j z σ H' hj ⟨v, rfl, s3, e3⟩
          obtain ⟨o, ho, rfl⟩ := nI_mem hj
          have hol := hls o (List.mem_of_getElem? ho)
          have sz : (ls.length :: (ls.take j).flatMap (chgN g.map.w (fldOf m'))).length ≤ 500 := by
            have := flat_len (f := chgN g.map.w (fldOf m')) (k := 3) (fun _ => Nat.le_refl 3) (ls.take j)
            rw [List.length_take] at this
            rw [List.length_cons]
            omega
          have ea3 := s3 _ _ (s2 _ _ h11)
          refine ⟨_, rfl, .inl ⟨rfl, _, .inl (.inl e3)⟩, _, rfl, a, dx, _, rfl, ea3, lR_no (by decide +kernel), _, rfl, a, dx, g.map.w, o, _, _, _, _, _, rfl, ea3, wf.w0, wf.w12, fun p np => ?_⟩
          have nptp : pt ≠ p := ne_of_none e3 np
          refine ⟨pt, p, _, _, rfl, rfl, (by rw [upd_ne nptp]; exact e3), upd_same, ?_, ?_⟩
          · rw [nI_len, nI_len]
            show _ + 2 ≤ sizeLine
            exact Nat.le_trans (Nat.add_le_add_right sz 2) (by decide)
          have s4 : Same H2 (upd (upd H' p (.lst (nI (plN g.map.w o)))) pt (.lst (nI (ls.length :: (ls.take j).flatMap (chgN g.map.w (fldOf m'))) ++ nI (plN g.map.w o)))) := fun b u e => by
            rw [upd_ne (ne_of_none e npt)]
            exact (same_upd np) b u (s3 b u e)
          have e4 : (upd (upd H' p (.lst (nI (plN g.map.w o)))) pt (.lst (nI (ls.length :: (ls.take j).flatMap (chgN g.map.w (fldOf m'))) ++ nI (plN g.map.w o)))) pt = some (.lst (nI ((ls.length :: (ls.take j).flatMap (chgN g.map.w (fldOf m'))) ++ plN g.map.w o))) := by rw [upd_same, nI_app _ (plN g.map.w o)]
          generalize (upd (upd H' p (.lst (nI (plN g.map.w o)))) pt (.lst (nI (ls.length :: (ls.take j).flatMap (chgN g.map.w (fldOf m'))) ++ nI (plN g.map.w o)))) = H4 at s4 e4
          refine ⟨_, rfl, .inl ⟨rfl, _, .inl (.inl e4)⟩, _, rfl, _, rfl, pn, _, _, _, rfl, rfl, SqL.of (s4 _ _ (s2 _ _ e1)), gF' hol, fldOf m' o, rfl, pt, _, _, rfl, rfl, e4, ?_, _, rfl, fun b u e => ?_, ?_⟩
          · rw [nI_len, List.length_append]
            show _ + 2 < sizeLine
            exact Nat.lt_of_le_of_lt (Nat.add_le_add_right sz 2) (by decide)
          · rw [upd_ne (ne_of_none e npt)]
            exact s4 b u e
          · rw [upd_same, flat_next ho]
            have e5 : nI ((ls.length :: (ls.take j).flatMap (chgN g.map.w (fldOf m'))) ++ plN g.map.w o) ++ [rowV (fldOf m' o)] = nI (ls.length :: ((ls.take j).flatMap (chgN g.map.w (fldOf m')) ++ chgN g.map.w (fldOf m') o)) := by
              have e6 : (ls.length :: ((ls.take j).flatMap (chgN g.map.w (fldOf m')) ++ chgN g.map.w (fldOf m') o)) = ((ls.length :: (ls.take j).flatMap (chgN g.map.w (fldOf m'))) ++ plN g.map.w o) ++ [Ge07.optRow (fldOf m' o)] := by
                show _ = (ls.length :: ((ls.take j).flatMap (chgN g.map.w (fldOf m')) ++ plN g.map.w o)) ++ [Ge07.optRow (fldOf m' o)]
                show _ = ls.length :: (((ls.take j).flatMap (chgN g.map.w (fldOf m')) ++ plN g.map.w o) ++ [Ge07.optRow (fldOf m' o)])
                rw [List.append_assoc]
                rfl
              rw [e6, nI_app _ [Ge07.optRow (fldOf m' o)]]
              rfl
            rw [e5]
        · rintro σ H' ⟨v, rfl, s3, e3⟩
          rw [nI_len, List.take_length] at e3
          refine ⟨_, rfl, D.keep (ans := Ge07.ints (ls.length :: ls.flatMap (chgN g.map.w (fldOf m')))) L0 (x2.trans (extN_of s3)) ((tb1.ext s2).ext s3) (fresh_ext x2 npt) (by rw [ints_V]; exact e3) est⟩
    · have es : spotV g.map x y = .non := if_neg hin
      rw [es]
      refine if_t rfl ⟨(by show 1 ≤ sizeLine; decide), fun p np => ?_⟩
      refine D.same (ans := [-2]) L0 tb (Same.refl H) np ?_
      show (g, if 99 < c then [-1] else if Ge07.inside g.map (x, y) = false then [-2] else _) = _
      rw [if_neg b1, if_pos]
      cases q : Ge07.inside g.map (x, y) with
      | false => rfl
      | true => exact absurd q hin
end
end Gf
set_option Elab.async false
set_option linter.all false
set_option maxRecDepth 100000
set_option maxHeartbeats 2000000
namespace Gf
open PySem PySem.Spec PyProof.Rows L2 LamX NdefX
/-! ### let_go: the steps -/
theorem all_dist {m : Ge07.Map} {D : Nat → Option Nat} {l : List OneI} (h : Dist l) : Dist (allI m D l) := by
  unfold allI
  rw [dist_iff, steps_fst, ← dist_iff]
  exact h
theorem all_on {m : Ge07.Map} {D : Nat → Option Nat} {l : List OneI} (h : OnI m l) : OnI m (allI m D l) := steps_on _ _ (fun a ha => h a ((ord_perm _).mem_iff.mp ha)) h
/-- what holds between the steps -/
theorem go_ok {m : Ge07.Map} {D : Nat → Option Nat} {l : List OneI} (hd : Dist l) (ho : OnI m l) (h12 : l.length ≤ 12) : ∀ k : Nat, Dist (goI m D k 1 l).1 ∧ OnI m (goI m D k 1 l).1 ∧ (goI m D k 1 l).1.length ≤ 12 ∧ (goI m D k 1 l).2.length ≤ 12 * k
  | 0 => ⟨hd, ho, h12, Nat.zero_le _⟩
  | k + 1 => by
    obtain ⟨h1, h2, h3, h4⟩ := go_ok hd ho h12 k
    rw [go_snoc]
    refine ⟨(all_dist h1).filter _, fun a ha => all_on h2 a (List.mem_filter.mp ha).1, ?_, ?_⟩
    · refine Nat.le_trans (left_len _) ?_
      rw [all_len]
      exact h3
    · rw [List.length_append, List.length_map]
      have h5 := gone_len (D := D) (allI m D (goI m D k 1 l).1)
      rw [all_len] at h5
      omega
def twoN (p : Nat × Nat) : List Nat := [p.1, p.2]
/-- pairs, each a tuple -/
def TupsAt (H : Hp) (ts : List Addr) (ps : List (Nat × Nat)) : Prop := ts.length = ps.length ∧ ∀ (j : Nat) (t : Addr) (p : Nat × Nat), ts[j]? = some t → ps[j]? = some p → H t = some (.tup [.int (p.1 : Nat), .int (p.2 : Nat)])
theorem TupsAt.to {H H' : Hp} {ts : List Addr} {ps : List (Nat × Nat)} (h : TupsAt H ts ps) (k : ∀ t xs, H t = some (.tup xs) → H' t = some (.tup xs)) : TupsAt H' ts ps := ⟨h.1, fun j t p h1 h2 => k _ _ (h.2 j t p h1 h2)⟩
theorem TupsAt.snoc {H : Hp} {ts : List Addr} {ps : List (Nat × Nat)} {t : Addr} {p : Nat × Nat} (h : TupsAt H ts ps) (e : H t = some (.tup [.int (p.1 : Nat), .int (p.2 : Nat)])) : TupsAt H (ts ++ [t]) (ps ++ [p]) := by
  refine ⟨by rw [List.length_append, List.length_append, h.1]; rfl, fun j t' p' h1 h2 => ?_⟩
  by_cases hj : j < ts.length
  · rw [List.getElem?_append_left hj] at h1
    rw [List.getElem?_append_left (by rw [← h.1]; exact hj)] at h2
    exact h.2 j t' p' h1 h2
  · rw [List.getElem?_append_right (by omega)] at h1
    rw [List.getElem?_append_right (by rw [← h.1]; omega), ← h.1] at h2
    have h3 := (List.getElem?_eq_some_iff.mp h1).1
    have h4 : j - ts.length < 1 := h3
    have ej : j - ts.length = 0 := by omega
    rw [ej] at h1 h2
    cases h1
    cases h2
    exact e
section
variable {P : Program} {w : World} {K : PySem.W.Frag} {mg : Str → Option Value} {base : Heap} {C CC CR : Addr} {T : List (Addr × Str)} {fS fSt fR fN : Addr} {fdS fdSt fdR fdN : FuncData}
abbrev sLetGo : Stmt := inClass sLand 10
def spLetGo (C CC : Addr) (T : List (Addr × Str)) : Sp := fun vs H Q _ => ∃ (a : Addr) (g : Ge07.House) (ft : List Addr) (n : Nat), vs = [.ref a, .int n] ∧ LandAt C CC H a g ft ∧ Tabs T H ∧ Done C CC T H a g ft (.go n) Q
theorem scLetGo : FnScope ["self", "steps", "gone", "step", "number", "told", "pair"] ["self", "steps"] (defScope sLetGo) := ⟨rfl, rfl, rfl, by decide +kernel, rfl, by decide +kernel, by decide +kernel⟩
theorem ok_letGo {f fH fT : Addr} {fd fdH fdT : FuncData} {k : Nat} (F : Fun K "let_go" "Land.let_go" sLetGo f fd) (TL : LTxt K mg C) (CO : Consts mg) (TK : KTxt K mg CC)
    (GH : FnOk P w K mg base CX0 1 fH fdH ["self"] (spHowMany CC)) (bH : Binds K fdH ["self"] []) (mH : Meth K CC "how_many" fH)
    (GT : FnOk P w K mg base CX0 5 fT fdT ["self", "wide", "high", "field"] (spTakeStep K CC T)) (bT : Binds K fdT ["self", "wide", "high", "field"] []) (mT : Meth K CC "take_step" fT) (mL : mg "len" = none) (mRg : mg "range" = none) :
    FnOk P w K mg base CX0 (k + 6) f fd ["self", "steps"] (spLetGo C CC T) := by
  obtain ⟨t1, c1⟩ := CO.stps
  obtain ⟨t2, c2⟩ := CO.bad
  have nd := scLetGo.nd
  refine F.ok scLetGo (fun vs H Q E h => ?_) (fun cdv A outer s H vs Q E hr h => ?_)
  · obtain ⟨a, g, ft, n, rfl, _⟩ := h
    rfl
  · have hr1 : Room 1 _ := hr.mono (show 1 ≤ k + 5 by omega)
    have hr5 : Room 5 _ := hr.mono (show 5 ≤ k + 5 by omega)
    refine ⟨_, pss_cons (ps_if (pt_cmpR op_gt (pv 1) (pe_glob rfl c1 (rel_int _ _)) (nomark _)) (pss_one (ps_ret (pe_lst (pa_cons (pe_glob rfl c2 (rel_int _ _)) pa_nil)))) pss_nil)
      (pss_cons (ps_set (i := 2) nd rfl (.inl rfl) (pe_lst pa_nil))
      (pss_cons (ps_for PassesOwn.never rfl (pi_range2 rfl mRg (pa_cons pe_int (pa_cons (pe_op op_add (pv 1) pe_int) pa_nil))) (pg_name (i := 3) nd rfl (.inl rfl))
        (pss_one (ps_for PassesOwn.never rfl (pi_list (pe_meth (pe_fld (pv 0) rfl) TK.cl mT GT hr5 bT .nil pass0 (pa_cons (pe_fld (pv 0) rfl) (pa_cons (pe_fld (pv 0) rfl) (pa_cons (pe_fld (pv 0) rfl) pa_nil))))) (pg_name (i := 4) nd rfl (.inl rfl))
          (pss_one (ps_expr (pe_bm PySem.F.plainAttrs_list PySem.F.slot_list_append PySem.F.type_list_append mt_append (pv 2) (pa_cons (pe_tup (pa_cons (pv 3) (pa_cons (pv 4) pa_nil))) pa_nil)))))))
      (pss_cons (ps_set (i := 5) nd rfl (.inl rfl) (pe_lst (pa_cons (pe_meth0 (pe_fld (pv 0) rfl) TK.cl mH GH hr1 bH .nil pass0) (pa_cons (pe_callB call_len_seq (by rfl) mL PySem.boot_len (pa_cons (pv 2) pa_nil)) pa_nil))))
      (pss_cons (ps_for PassesOwn.never rfl (pi_list (pv 2)) (pg_name (i := 6) nd rfl (.inl rfl)) (pss_one (ps_expr (pe_bm PySem.F.plainAttrs_list PySem.F.slot_list_extend PySem.F.type_list_extend mt_extendT (pv 5) (pa_cons (pv 6) pa_nil)))))
      (pss_one (ps_ret (pv 5))))))), ?_⟩
    obtain ⟨a, g, ft, n, rfl, L, tb, D⟩ := h
    have L0 := L
    obtain ⟨dx, pc, pg, pk, ps, pf, eft, ndf, h1, h2, h3, h4, h5, wf⟩ := L
    obtain ⟨⟨dk, hk1⟩, hk2⟩ := id h4
    refine ⟨_, rfl, _, _, rfl, rfl, _, rfl, ?_⟩
    by_cases b1 : 60 < n
    · refine if_t (decide_eq_true (by omega)) ⟨(by show 1 ≤ sizeLine; decide), fun p np => ?_⟩
      refine D.same (ans := [-1]) L0 tb (Same.refl H) np ?_
      show (if 60 < n then (g, [-1]) else _) = _
      rw [if_pos b1]
    refine if_f (decide_eq_false (by omega)) ⟨Nat.zero_le _, fun pgo npgo => ?_⟩
    have eF : Ge07.field g.map = (List.range (g.map.w * g.map.h)).map (fldOf g.map) := fld_range wf.w0
    obtain ⟨go1, go2⟩ := go_I (given := g.given) eF n 0 wf.crowd
    have est : Ge07.step g (.go n) = ({ g with crowd := (Ge07.goSteps n g.map (Ge07.field g.map) g.crowd).1 }, Ge07.ints ([(goI g.map (fldOf g.map) n 1 (crI g)).1.length, (goI g.map (fldOf g.map) n 1 (crI g)).2.length] ++ (goI g.map (fldOf g.map) n 1 (crI g)).2.flatMap twoN)) := by
      show (if 60 < n then (g, [-1]) else ({ g with crowd := (Ge07.goSteps n g.map (Ge07.field g.map) g.crowd).1 }, Ge07.ints ([(Ge07.goSteps n g.map (Ge07.field g.map) g.crowd).1.length, (Ge07.goSteps n g.map (Ge07.field g.map) g.crowd).2.length] ++ (Ge07.goSteps n g.map (Ge07.field g.map) g.crowd).2.flatMap fun x => [n - x.1, x.2]))) = _
      rw [if_neg b1]
      have e1 : (Ge07.goSteps n g.map (Ge07.field g.map) g.crowd).1.length = (goI g.map (fldOf g.map) n 1 (crI g)).1.length := by
        rw [← go1]
        unfold toI
        rw [List.length_map]
      have e2 : (Ge07.goSteps n g.map (Ge07.field g.map) g.crowd).2.length = (goI g.map (fldOf g.map) n 1 (crI g)).2.length := by
        rw [← go2, List.length_map]
      have e3 : ((Ge07.goSteps n g.map (Ge07.field g.map) g.crowd).2.flatMap fun x => [n - x.1, x.2]) = (goI g.map (fldOf g.map) n 1 (crI g)).2.flatMap twoN := by
        rw [← go2, List.flatMap_map]
        rfl
      rw [e1, e2, e3]
    have wf' : WF { g with crowd := (Ge07.goSteps n g.map (Ge07.field g.map) g.crowd).1 } := by
      have z := wf_step wf (.go n)
      rw [est] at z
      exact z
    have ecr : crI { g with crowd := (Ge07.goSteps n g.map (Ge07.field g.map) g.crowd).1 } = (goI g.map (fldOf g.map) n 1 (crI g)).1 := go1
    have hgo := go_ok (m := g.map) (D := fldOf g.map) (crI_dist wf) (crI_on wf) (crI_len wf)
    have ndf' := ndf
    rw [eft] at ndf'
    simp only [List.nodup_cons, List.mem_cons, List.not_mem_nil, or_false, not_or] at ndf'
    obtain ⟨⟨n1, n2, n3, m1, n4⟩, ⟨n5, n6, m2, n7⟩, ⟨n8, m3, n9⟩, ⟨m4, n10⟩, m5, _⟩ := ndf'
    have ngs : pgo ≠ ps := fun z => by rw [z, hk2] at npgo; cases npgo
    have ngk : pgo ≠ pk := fun z => by rw [z, hk1] at npgo; cases npgo
    have nga : pgo ≠ a := fun z => by rw [z, h1] at npgo; cases npgo
    have s0 : Same H (upd H pgo (.lst [])) := same_upd npgo
    generalize crI g = l0 at *
    -- the steps
    refine ⟨_, rfl, _, _, rfl, rfl, 1, ((n : Nat) : Int) + 1, rfl, ⟨by omega, by omega, by omega, by omega⟩, ?_⟩
    rw [show (((n : Nat) : Int) + 1 - 1).toNat = n by omega]
    refine for_range (lo := 1) (n := n) (fun i σ H' => ∃ (v3 v4 : Option V) (ts : List Addr), σ = [some (.ref a), some (.int (n : Nat)), some (.ref pgo), v3, v4, none, none] ∧ CrowdAt CC H' pk ps (goI g.map (fldOf g.map) i 1 l0).1 g.given ∧ ButD ps H H' ∧ Tabs T H' ∧ H' pgo = some (.lst (ts.map V.ref)) ∧ TupsAt H' ts (goI g.map (fldOf g.map) i 1 l0).2)
      ⟨none, none, [], rfl, h4.same s0, fun b o e _ _ => s0 b o e, tb.ext s0, upd_same, rfl, fun j t p h _ => by simp at h⟩ ?_ ?_
    · rintro i σ H1 hi ⟨v3, v4, ts, rfl, C1, k1, tb1, e1, tu1⟩
      obtain ⟨g1, g2, g3, g4⟩ := hgo i
      have es := go_snoc g.map (fldOf g.map) i 1 l0
      obtain ⟨⟨dk1, q1⟩, q2⟩ := id C1
      have ea := k1 _ _ h1 m1 fun _ z => by cases z
      have ef := k1 _ _ h5 (fun z => m5 z.symm) fun _ z => by cases z
      rw [es]
      generalize (goI g.map (fldOf g.map) i 1 l0).1 = li at *
      generalize (goI g.map (fldOf g.map) i 1 l0).2 = gi at *
      refine ⟨_, rfl, a, C, dx, _, _, rfl, ea, TL.cl, TL.nK, lR_crowd, pk, dk1, _, rfl, q1, kR_no (by decide +kernel), _, rfl, a, C, dx, _, _, rfl, ea, TL.cl, TL.nW, lR_wide, _, rfl, a, C, dx, _, _, rfl, ea, TL.cl, TL.nH, lR_high, _, rfl, a, C, dx, _, _, rfl, ea, TL.cl, TL.nF, lR_field, ?_⟩
      refine ⟨g.map, pk, ps, pf, li, g.given, rfl, C1, ⟨SqL.of ef, wf.w0, wf.w12⟩, g2, g1, g3, tb1, fun H2 p C2 k2 tb2 fp e2 => ?_⟩
      have e12 := k2 _ _ e1 ngs fun _ z => by cases z
      have npg : p ≠ pgo := (fp.ne e1 fun _ z => by cases z).symm
      have hgl : (goneI (fldOf g.map) (allI g.map (fldOf g.map) li)).length ≤ 12 := by
        have h5 := gone_len (D := fldOf g.map) (allI g.map (fldOf g.map) li)
        rw [all_len] at h5
        omega
      have tu2 : TupsAt H2 ts gi := tu1.to fun t xs e => k2 t _ e (fun z => by rw [z, q2] at e; cases e) fun _ z => by cases z
      generalize goneI (fldOf g.map) (allI g.map (fldOf g.map) li) = gn at *
      refine ⟨p, rfl, ⟨_, SqL.of e2⟩, for_list (K := K) (a := p) (xs := nI gn) (fun j σ H' => ∃ (v4 : Option V) (ts : List Addr), σ = [some (.ref a), some (.int (n : Nat)), some (.ref pgo), some (.int (1 + (i : Int))), v4, none, none] ∧ (∀ b o, H2 b = some o → b ≠ pgo → H' b = some o) ∧ H' pgo = some (.lst (ts.map V.ref)) ∧ TupsAt H' ts (gi ++ (gn.take j).map fun n => (1 + i, n)))
        ⟨v4, ts, rfl, fun _ _ e _ => e, e12, by rw [List.take_zero, List.map_nil, List.append_nil]; exact tu2⟩ (fun j σ H' _ ⟨_, _, _, z, _⟩ => SqL.of (z _ _ e2 npg)) ?_ ?_⟩
      · rintro j z σ H3 hj ⟨v4, ts3, rfl, k3, e3, tu3⟩
        obtain ⟨o, ho, rfl⟩ := nI_mem hj
        refine ⟨_, rfl, .inl ⟨rfl, _, .inl (.inl e3)⟩, _, rfl, _, rfl, (by show 2 ≤ sizeLine; decide), fun t nt => ?_⟩
        have ngt : pgo ≠ t := ne_of_none e3 nt
        have hl3 : ts3.length ≤ 12 * i + 12 := by
          rw [tu3.1, List.length_append, List.length_map, List.length_take]
          omega
        refine ⟨pgo, _, _, rfl, rfl, (by rw [upd_ne ngt]; exact e3), small1000 (by rw [List.length_map]; omega), _, ts3 ++ [t], rfl, fun b u e nb => ?_, ?_, ?_⟩
        · rw [upd_ne nb]
          exact (same_upd nt) b u (k3 b u e nb)
        · rw [upd_same, List.map_append]
          rfl
        · have ep : (gi ++ (gn.take (j + 1)).map fun n => (1 + i, n)) = (gi ++ (gn.take j).map fun n => (1 + i, n)) ++ [(1 + i, o)] := by
            rw [take_next ho, List.map_append, ← List.append_assoc]
            rfl
          rw [ep]
          refine TupsAt.snoc (tu3.to fun t' xs e => ?_) ?_
          · have n1 : t' ≠ pgo := ne_of e e3 (by intro z; cases z)
            rw [upd_ne n1]
            exact (same_upd nt) _ _ e
          · rw [upd_ne (fun z => ngt z.symm), upd_same]
            show some (HO.tup [.int (1 + (i : Int)), .int (o : Int)]) = some (HO.tup [.int ((1 + i : Nat) : Int), .int (o : Int)])
            rw [Int.natCast_add]
            rfl
      · rintro σ H3 ⟨v4, ts3, rfl, k3, e3, tu3⟩
        rw [nI_len, List.take_length] at tu3
        obtain ⟨⟨dk2, r1⟩, r2⟩ := C2
        refine ⟨_, _, ts3, rfl, ⟨⟨dk2, k3 _ _ r1 (fun z => ngk z.symm)⟩, k3 _ _ r2 (fun z => ngs z.symm)⟩, fun b o e nb nt => ?_, ?_, e3, tu3⟩
        · exact k3 b o (k2 b o (k1 b o e nb nt) nb nt) (ne_of_none e npgo)
        · intro x hx
          obtain ⟨us, u1, u2, u3⟩ := tb2 x hx
          refine ⟨us, k3 _ _ u1 (fun z => by rw [z, e12] at u1; cases u1), u2, fun pos cv hc => ?_⟩
          obtain ⟨c, r1, r2⟩ := u3 pos cv hc
          exact ⟨c, r1, k3 _ _ r2 (fun z => by rw [z, e12] at r2; cases r2)⟩
    · rintro σ H1 ⟨v3, v4, ts, rfl, C1, k1, tb1, e1, tu1⟩
      obtain ⟨g1, g2, g3, g4⟩ := hgo n
      obtain ⟨⟨dk1, q1⟩, q2⟩ := id C1
      have ea := k1 _ _ h1 m1 fun _ z => by cases z
      generalize goI g.map (fldOf g.map) n 1 l0 = gg at *
      -- told = [self.crowd.how_many(), len(gone)]
      refine ⟨_, rfl, a, C, dx, _, _, rfl, ea, TL.cl, TL.nK, lR_crowd, pk, dk1, _, rfl, q1, kR_no (by decide +kernel), pk, ps, gg.1, g.given, rfl, C1, _, rfl, pgo, _, rfl, .inl (SqL.of e1), (by show 2 ≤ sizeLine; decide), fun pt npt => ?_⟩
      rw [List.length_map, tu1.1]
      have ngt : pgo ≠ pt := ne_of_none e1 npt
      have s2 : Same H1 (upd H1 pt (.lst [.int (gg.1.length : Nat), .int (gg.2.length : Nat)])) := same_upd npt
      refine ⟨_, rfl, pgo, rfl, ⟨_, SqL.of (s2 _ _ e1)⟩, for_list (K := K) (a := pgo) (xs := ts.map V.ref) (fun j σ H' => ∃ v6 : Option V, σ = [some (.ref a), some (.int (n : Nat)), some (.ref pgo), v3, v4, some (.ref pt), v6] ∧ Same H1 H' ∧ H' pt = some (.lst (nI ([gg.1.length, gg.2.length] ++ (gg.2.take j).flatMap twoN))))
        ⟨none, rfl, s2, upd_same⟩ (fun j σ H' _ ⟨_, _, z, _⟩ => SqL.of (z _ _ e1)) ?_ ?_⟩
      · rintro j z σ H' hj ⟨v6, rfl, s3, e3⟩
        rw [List.getElem?_map] at hj
        obtain ⟨t, ht, rfl⟩ := Option.map_eq_some_iff.mp hj
        have hjl : j < gg.2.length := by rw [← tu1.1]; exact (List.getElem?_eq_some_iff.mp ht).1
        have hgj : gg.2[j]? = some gg.2[j] := List.getElem?_eq_getElem hjl
        have et := s3 _ _ (tu1.2 j t _ ht hgj)
        generalize gg.2[j] = pr at hgj et
        have sz : (nI ([gg.1.length, gg.2.length] ++ (gg.2.take j).flatMap twoN)).length ≤ 2000 := by
          rw [nI_len, List.length_append]
          have := flat_lenO (f := twoN) (k := 2) (fun _ => Nat.le_refl 2) (gg.2.take j)
          rw [List.length_take] at this
          show 2 + _ ≤ 2000
          omega
        refine ⟨_, rfl, .inl ⟨rfl, _, .inl (.inl e3)⟩, _, rfl, pt, t, _, _, rfl, rfl, e3, et, Nat.le_trans (Nat.add_le_add_right sz 2) (by decide), _, rfl, fun b o e => ?_, ?_⟩
        · rw [upd_ne (ne_of_none e npt)]
          exact s3 b o e
        · rw [upd_same, flat_nextO hgj, ← List.append_assoc, nI_app _ (twoN pr)]
          rfl
      · rintro σ H' ⟨v6, rfl, s3, e3⟩
        rw [List.length_map, tu1.1, List.take_length] at e3
        refine ⟨_, rfl, D H' pt ft ?_ (fun b hb => .inl hb) (fun b o e nb nt => ?_) (tb1.ext s3) (k1.fresh q2 npt fun _ z => by cases z) ?_⟩
        · rw [est]
          refine ⟨dx, pc, pg, pk, ps, pf, eft, ndf, s3 _ _ ea, s3 _ _ (k1 _ _ h2 m2 fun _ z => by cases z), s3 _ _ (k1 _ _ h3 m3 fun _ z => by cases z), ?_, s3 _ _ (k1 _ _ h5 (fun z => m5 z.symm) fun _ z => by cases z), wf'⟩
          rw [ecr]
          exact C1.same s3
        · exact s3 b o (k1 b o e (fun z => nb (by rw [eft, z]; simp)) nt)
        · rw [est]
          show H' pt = some (.lst ((Ge07.ints _).map V.int))
          rw [ints_V]
          exact e3
end
end Gf
set_option Elab.async false
set_option linter.all false
set_option maxRecDepth 100000
set_option maxHeartbeats 2000000
namespace Gf
open PySem PySem.Spec PyProof.Rows L2 LamX NdefX
section
variable {c : Ge07.Call} {t : List Int}
theorem enc6 (h : enc c = nz 6 :: t) : ∃ p, c = .way p := by
  cases c <;> first | exact ⟨_, rfl⟩ | (injection h with h1 h2; exact absurd (show nz _ = nz _ from h1) (by decide))
theorem enc7 (h : enc c = nz 7 :: t) : ∃ p, c = .next p := by
  cases c <;> first | exact ⟨_, rfl⟩ | (injection h with h1 h2; exact absurd (show nz _ = nz _ from h1) (by decide))
theorem enc8 (h : enc c = nz 8 :: t) : ∃ p, c = .put p := by
  cases c <;> first | exact ⟨_, rfl⟩ | (injection h with h1 h2; exact absurd (show nz _ = nz _ from h1) (by decide))
theorem enc9 (h : enc c = nz 9 :: t) : ∃ n, c = .go n := by
  cases c <;> first | exact ⟨_, rfl⟩ | (injection h with h1 h2; exact absurd (show nz _ = nz _ from h1) (by decide))
theorem enc10 (h : enc c = nz 10 :: t) : c = .crowd := by
  cases c <;> first | rfl | (injection h with h1 h2; exact absurd (show nz _ = nz _ from h1) (by decide))
theorem enc11 (h : enc c = nz 11 :: t) : ∃ p n, c = .changed p n := by
  cases c <;> first | exact ⟨_, _, rfl⟩ | (injection h with h1 h2; exact absurd (show nz _ = nz _ from h1) (by decide))
end
section
variable {P : Program} {w : World} {K : PySem.W.Frag} {mg : Str → Option Value} {base : Heap} {C CC CR : Addr} {T : List (Addr × Str)} {fT fP fW : Addr} {fdT fdP fdW : FuncData}
abbrev sCallWay : Stmt := topS 37
abbrev sCallNext : Stmt := topS 38
abbrev sCallPut : Stmt := topS 39
abbrev sCallGo : Stmt := topS 40
abbrev sCallCrowd : Stmt := topS 41
abbrev sCallChg : Stmt := topS 42
theorem scCallWay : FnScope ["land", "reader"] ["land", "reader"] (defScope sCallWay) := ⟨rfl, rfl, rfl, by decide +kernel, rfl, by decide +kernel, by decide +kernel⟩
theorem scCallNext : FnScope ["land", "reader"] ["land", "reader"] (defScope sCallNext) := ⟨rfl, rfl, rfl, by decide +kernel, rfl, by decide +kernel, by decide +kernel⟩
theorem scCallPut : FnScope ["land", "reader"] ["land", "reader"] (defScope sCallPut) := ⟨rfl, rfl, rfl, by decide +kernel, rfl, by decide +kernel, by decide +kernel⟩
theorem scCallGo : FnScope ["land", "reader"] ["land", "reader"] (defScope sCallGo) := ⟨rfl, rfl, rfl, by decide +kernel, rfl, by decide +kernel, by decide +kernel⟩
theorem scCallCrowd : FnScope ["land", "reader"] ["land", "reader"] (defScope sCallCrowd) := ⟨rfl, rfl, rfl, by decide +kernel, rfl, by decide +kernel, by decide +kernel⟩
theorem scCallChg : FnScope ["land", "reader", "place", "cost"] ["land", "reader"] (defScope sCallChg) := ⟨rfl, rfl, rfl, by decide +kernel, rfl, by decide +kernel, by decide +kernel⟩
theorem ok_callWay {f fM : Addr} {fd fdM : FuncData} {k : Nat} (F : Fun K "call_way" "call_way" sCallWay f fd) (TL : LTxt K mg C) (TR : RTxt K mg CR) (R : RMeth P w K mg base CR fT fP fW fdT fdP fdW)
    (GM : FnOk P w K mg base CX0 6 fM fdM ["self", "place"] (spTellWay C CC T)) (bM : Binds K fdM ["self", "place"] []) (mM : Meth K C "tell_way" fM) : FnOk P w K mg base CX0 (k + 7) f fd ["land", "reader"] (spCall (LandAt C CC) K CR T 6) := by
  refine F.ok scCallWay (fun vs H Q E h => ?_) (fun cdv A outer s H vs Q E hr h => ?_)
  · obtain ⟨la, ra, g, ft, ns, i, c, rest, rfl, _⟩ := h
    rfl
  · exact ⟨_, pss_one (ps_ret (pe_meth (pv 0) TL.cl mM GM (hr.mono (show 6 ≤ k + 6 by omega)) bM .nil pass0 (pa_cons (pe_meth0 (pv 1) TR.cl R.mP R.gP (hr.mono (show 2 ≤ k + 6 by omega)) R.bP .nil pass0) pa_nil))), pair_call (by decide +kernel) (fun c e => enc6 e) (fun _ _ => rfl) h⟩
theorem ok_callNext {f fM : Addr} {fd fdM : FuncData} {k : Nat} (F : Fun K "call_next" "call_next" sCallNext f fd) (TL : LTxt K mg C) (TR : RTxt K mg CR) (R : RMeth P w K mg base CR fT fP fW fdT fdP fdW)
    (GM : FnOk P w K mg base CX0 6 fM fdM ["self", "place"] (spTellNext C CC T)) (bM : Binds K fdM ["self", "place"] []) (mM : Meth K C "tell_next" fM) : FnOk P w K mg base CX0 (k + 7) f fd ["land", "reader"] (spCall (LandAt C CC) K CR T 7) := by
  refine F.ok scCallNext (fun vs H Q E h => ?_) (fun cdv A outer s H vs Q E hr h => ?_)
  · obtain ⟨la, ra, g, ft, ns, i, c, rest, rfl, _⟩ := h
    rfl
  · exact ⟨_, pss_one (ps_ret (pe_meth (pv 0) TL.cl mM GM (hr.mono (show 6 ≤ k + 6 by omega)) bM .nil pass0 (pa_cons (pe_meth0 (pv 1) TR.cl R.mP R.gP (hr.mono (show 2 ≤ k + 6 by omega)) R.bP .nil pass0) pa_nil))), pair_call (by decide +kernel) (fun c e => enc7 e) (fun _ _ => rfl) h⟩
theorem ok_callPut {f fM : Addr} {fd fdM : FuncData} {k : Nat} (F : Fun K "call_put" "call_put" sCallPut f fd) (TL : LTxt K mg C) (TR : RTxt K mg CR) (R : RMeth P w K mg base CR fT fP fW fdT fdP fdW)
    (GM : FnOk P w K mg base CX0 6 fM fdM ["self", "place"] (spPutFig C CC T)) (bM : Binds K fdM ["self", "place"] []) (mM : Meth K C "put_figure" fM) : FnOk P w K mg base CX0 (k + 7) f fd ["land", "reader"] (spCall (LandAt C CC) K CR T 8) := by
  refine F.ok scCallPut (fun vs H Q E h => ?_) (fun cdv A outer s H vs Q E hr h => ?_)
  · obtain ⟨la, ra, g, ft, ns, i, c, rest, rfl, _⟩ := h
    rfl
  · exact ⟨_, pss_one (ps_ret (pe_meth (pv 0) TL.cl mM GM (hr.mono (show 6 ≤ k + 6 by omega)) bM .nil pass0 (pa_cons (pe_meth0 (pv 1) TR.cl R.mP R.gP (hr.mono (show 2 ≤ k + 6 by omega)) R.bP .nil pass0) pa_nil))), pair_call (by decide +kernel) (fun c e => enc8 e) (fun _ _ => rfl) h⟩
theorem ok_callGo {f fM : Addr} {fd fdM : FuncData} {k : Nat} (F : Fun K "call_go" "call_go" sCallGo f fd) (TL : LTxt K mg C) (TR : RTxt K mg CR) (R : RMeth P w K mg base CR fT fP fW fdT fdP fdW)
    (GM : FnOk P w K mg base CX0 6 fM fdM ["self", "steps"] (spLetGo C CC T)) (bM : Binds K fdM ["self", "steps"] []) (mM : Meth K C "let_go" fM) : FnOk P w K mg base CX0 (k + 7) f fd ["land", "reader"] (spCall (LandAt C CC) K CR T 9) := by
  refine F.ok scCallGo (fun vs H Q E h => ?_) (fun cdv A outer s H vs Q E hr h => ?_)
  · obtain ⟨la, ra, g, ft, ns, i, c, rest, rfl, _⟩ := h
    rfl
  · refine ⟨_, pss_one (ps_ret (pe_meth (pv 0) TL.cl mM GM (hr.mono (show 6 ≤ k + 6 by omega)) bM .nil pass0 (pa_cons (pe_meth0 (pv 1) TR.cl R.mT R.gT (hr.mono (show 1 ≤ k + 6 by omega)) R.bT .nil pass0) pa_nil))), ?_⟩
    obtain ⟨la, ra, g, ft, ns, i, c, rest, rfl, L, RR, nra, tb, ek, hf, hd, _, q⟩ := h
    obtain ⟨n, rfl⟩ := enc9 ek
    obtain ⟨dR, pR, hR, _⟩ := id RR
    obtain ⟨dx0, pc0, pg0, pk0, ps0, pf0, _, _, h0, _⟩ := id L
    refine ⟨_, rfl, la, dx0, _, rfl, h0, lR_no (by decide +kernel), _, rfl, ra, dR, _, rfl, hR, rF_none pR _ (by decide +kernel) (by decide +kernel), ra, ns, i, nz n, rfl, RR, get_drop hd 0, fun H1 R1 b1 => ?_⟩
    have L1 := land_but L nra b1
    exact ⟨la, g, ft, n, rfl, L1, tabs_rd tb RR b1, done_of (K := K) (CR := CR) (ns := ns) (i := i) b1 R1 L1 nra q⟩
theorem ok_callCrowd {f fM : Addr} {fd fdM : FuncData} {k : Nat} (F : Fun K "call_crowd" "call_crowd" sCallCrowd f fd) (TL : LTxt K mg C)
    (GM : FnOk P w K mg base CX0 2 fM fdM ["self"] (spTellCrowd C CC T)) (bM : Binds K fdM ["self"] []) (mM : Meth K C "tell_crowd" fM) : FnOk P w K mg base CX0 (k + 7) f fd ["land", "reader"] (spCall (LandAt C CC) K CR T 10) := by
  refine F.ok scCallCrowd (fun vs H Q E h => ?_) (fun cdv A outer s H vs Q E hr h => ?_)
  · obtain ⟨la, ra, g, ft, ns, i, c, rest, rfl, _⟩ := h
    rfl
  · refine ⟨_, pss_one (ps_ret (pe_meth0 (pv 0) TL.cl mM GM (hr.mono (show 2 ≤ k + 6 by omega)) bM .nil pass0)), ?_⟩
    obtain ⟨la, ra, g, ft, ns, i, c, rest, rfl, L, RR, nra, tb, ek, hf, hd, _, q⟩ := h
    obtain rfl := enc10 ek
    obtain ⟨dx0, pc0, pg0, pk0, ps0, pf0, _, _, h0, _⟩ := id L
    exact ⟨_, rfl, la, dx0, _, rfl, h0, lR_no (by decide +kernel), la, g, ft, rfl, L, tb, done_of (i := i) (fun b o e _ => e) RR L nra q⟩
theorem ok_callChg {f fM : Addr} {fd fdM : FuncData} {k : Nat} (F : Fun K "call_changed" "call_changed" sCallChg f fd) (TL : LTxt K mg C) (TR : RTxt K mg CR) (R : RMeth P w K mg base CR fT fP fW fdT fdP fdW)
    (GM : FnOk P w K mg base CX0 6 fM fdM ["self", "place", "cost"] (spTellChg C CC T)) (bM : Binds K fdM ["self", "place", "cost"] []) (mM : Meth K C "tell_changed" fM) : FnOk P w K mg base CX0 (k + 7) f fd ["land", "reader"] (spCall (LandAt C CC) K CR T 11) := by
  have nd := scCallChg.nd
  refine F.ok scCallChg (fun vs H Q E h => ?_) (fun cdv A outer s H vs Q E hr h => ?_)
  · obtain ⟨la, ra, g, ft, ns, i, c, rest, rfl, _⟩ := h
    rfl
  · have hr1 : Room 1 _ := hr.mono (show 1 ≤ k + 6 by omega)
    have hr2 : Room 2 _ := hr.mono (show 2 ≤ k + 6 by omega)
    have hr6 : Room 6 _ := hr.mono (show 6 ≤ k + 6 by omega)
    refine ⟨_, pss_cons (ps_set (i := 2) nd rfl (.inl rfl) (pe_meth0 (pv 1) TR.cl R.mP R.gP hr2 R.bP .nil pass0)) (pss_cons (ps_set (i := 3) nd rfl (.inl rfl) (pe_meth0 (pv 1) TR.cl R.mT R.gT hr1 R.bT .nil pass0))
      (pss_one (ps_ret (pe_meth (pv 0) TL.cl mM GM hr6 bM .nil pass0 (pa_cons (pv 2) (pa_cons (pv 3) pa_nil)))))), ?_⟩
    obtain ⟨la, ra, g, ft, ns, i, c, rest, rfl, L, RR, nra, tb, ek, hf, hd, _, q⟩ := h
    obtain ⟨⟨x, y⟩, n, rfl⟩ := enc11 ek
    obtain ⟨dR, pR, hR, _⟩ := id RR
    refine ⟨_, rfl, ra, dR, _, rfl, hR, rF_none pR _ (by decide +kernel) (by decide +kernel), ra, ns, i, nz x, nz y, rfl, RR, get_drop hd 0, get_drop hd 1, fun H1 pp R1 b1 npp e1 => ?_⟩
    obtain ⟨dR1, pR1, hR1, _⟩ := id R1
    refine ⟨_, rfl, ra, dR1, _, rfl, hR1, rF_none pR1 _ (by decide +kernel) (by decide +kernel), ra, ns, i + 2, nz n, rfl, R1, get_drop hd 2, fun H2 R2 b2 => ?_⟩
    have L2 := land_but (land_but L nra b1) nra b2
    have e2 : H2 pp = some (.tup [.int (nz x), .int (nz y)]) := b2 pp _ e1 fun z => by rw [z, hR1] at e1; cases e1
    obtain ⟨dx, pc, pg, pk, ps, pf, eft, ndf, h1, _⟩ := id L2
    refine ⟨_, rfl, la, dx, _, rfl, h1, lR_no (by decide +kernel), _, rfl, _, rfl, la, pp, g, ft, x, y, n, rfl, L2, e2, tabs_rd (tabs_rd tb RR b1) R1 b2, done_of (b1.trans b2) R2 L2 nra q⟩
end
end Gf
set_option Elab.async false
set_option linter.all false
set_option maxRecDepth 100000
set_option maxHeartbeats 2000000
namespace Gf
open PySem PySem.Spec PyProof.Rows L2 LamX NdefX
open PySem.W (WData Codec OpenSpec Well WellAll ReadsW ReadsAllW)
/-- the end of a specification's row with tables, over a head by facts: F gives the written part too -/
theorem walk_specTE {r : OpenSpec} {k : Nat} {q : Program} {loose : List Str} {XP : (Str → Option Value) → Heap → Prop} {YP : World → Heap → Prop} {d : DefRec} {ps : List Str}
    (hwell : r.wellSaid = true) (hdf : d.params.defaults = []) (hlen : r.args.length = ps.length) (hr : Room k callerA)
    (F : ∀ (w : World) (mg : Str → Option Value) (fa : Addr) (h : Heap), YP w h → h.Ns mainGlobals mg → mg d.name = some (.ref fa) → ∃ K : PySem.W.Frag, K.In h ∧ SpecAt r w K k ps mg fa h) :
    PySem.W.WalkOS q loose XP YP r d [] (fun f vs => PySem.call f vs) := by
  intro w s0 s1 mg mb G Y fa o pm cd doc dV kV ho hd hcd hD hmg hg args vals as hpre hlay hrd hwl hlo
  obtain ⟨a, dec, e2⟩ := PySem.W.os_pre_some hpre
  obtain ⟨eargs, hwi⟩ := Codec.encAll_of_decAll r.args args a dec
  subst eargs
  obtain ⟨K, KX, fd, cs, sp, hcs, hb, hsp, hF⟩ := F w mg fa _ Y G.T.g hmg
  refine PySem.W.enter_call (codeAny_mono (spec_callT (R := []) (cl := classAt s0.heap) (d0 := r.ret.enc (Codec.app r.args r.f a)) KX G.T.g G.T.b G.T.builtins G.T.nolimit hg G.T.bmain (fun p hp => (hcs p hp).1) (fun p hp => (hcs p hp).2.1) (fun p hp => (hcs p hp).2.2) hwl (pl_encAll _ _) (layable_weight hlay) hr hF hb
    (by rw [encAll_len]; exact hlen) (fun H xs hH hO hS => hsp H xs a hH hO hwi e2 hS) fun _ _ _ z => z) fun r' s' hq => ?_)
  obtain ⟨u, ads, rfl, rdd, old, sameOs, bare⟩ := hq
  exact ⟨.inl ⟨u, _, ads, rfl, fun _ => rfl, rdd, (OpenSpec.post_iff hwell hwi _ _).mpr rfl, fun z => Bool.noConfusion (show false = true from z)⟩, old, sameOs, bare⟩
/-- a def as the head's facts tell it -/
theorem fun_ofD {K : PySem.W.Frag} {x qual : Str} {st : Stmt} {f : Addr} {fd : FuncData} (F : FunD K x qual (defArgs st) (defBody st) (defScope st) [] [] f fd) : Fun K x qual st f fd := by
  obtain ⟨oc, od, dV, kV, doc, pm, an, cdv, ct, osl, e, lk, hcd, hD, _⟩ := F.ex
  rcases hD with ⟨_, rfl⟩ | ⟨z, _⟩
  · exact ⟨⟨oc, od, kV, doc, pm, an, cdv, ct, osl, e, lk, hcd⟩, F.kp⟩
  · exact absurd rfl z
/-- one with a table: its code object by name -/
theorem tab_ofD {K : PySem.W.Frag} {x qual : Str} {st : Stmt} {p : He.Defn} {fd : FuncData} (F : FunD K x qual (defArgs st) (defBody st) (defScope st) [] [] (He.fAd K p) fd) :
    ∃ (oc kV doc pm ct : Value) (od an : Option Addr) (osl : Array (Option Value)), fd = PySem.W.fnOf x qual (defArgs st) (defBody st) (defScope st) .none kV doc pm an (.ref (He.cT K p).1) ct ∧
      K.lookup (He.fAd K p) = some ⟨oc, od, .func (PySem.W.fnOf x qual (defArgs st) (defBody st) (defScope st) .none kV doc pm an (.ref (He.cT K p).1) ct), osl⟩ ∧ PySem.W.codeIn K (.ref (He.cT K p).1) qual = true := by
  obtain ⟨oc, od, dV, kV, doc, pm, an, cdv, ct, osl, e, lk, hcd, hD, _⟩ := F.ex
  rcases hD with ⟨_, rfl⟩ | ⟨z, _⟩
  · obtain ⟨c, rfl⟩ := He.codeIn_ref hcd
    rw [e] at lk
    have ec : (He.cT K p).1 = c := He.codeOf_eq lk rfl
    rw [ec]
    exact ⟨oc, kV, doc, pm, ct, od, an, osl, e, lk, hcd⟩
  · exact absurd rfl z
end Gf
set_option Elab.async false
set_option linter.all false
set_option maxRecDepth 100000
set_option maxHeartbeats 4000000
namespace Gf
open PySem PySem.Spec PyProof.Rows L2 LamX NdefX
/-! ### the head: facts by names, the run -/
def dB : He.DefD := ⟨("beside", none), "beside", "beside", defArgs sBeside, defBody sBeside, defScope sBeside, [], []⟩
def dRF : He.DefD := ⟨("reckon_field", none), "reckon_field", "reckon_field", defArgs sReckonF, defBody sReckonF, defScope sReckonF, [], []⟩
def dOG : He.DefD := ⟨("open_goals", none), "open_goals", "open_goals", defArgs sOpenGoals, defBody sOpenGoals, defScope sOpenGoals, [], []⟩
def dNE : He.DefD := ⟨("nearest", none), "nearest", "nearest", defArgs sNearest, defBody sNearest, defScope sNearest, [], []⟩
def dNX : He.DefD := ⟨("next_spot", none), "next_spot", "next_spot", defArgs sNextSpot, defBody sNextSpot, defScope sNextSpot, [], []⟩
def dWT : He.DefD := ⟨("way_told", none), "way_told", "way_told", defArgs sWayTold, defBody sWayTold, defScope sWayTold, [], []⟩
def dKI : He.DefD := ⟨("Crowd", some "__init__"), "__init__", "Crowd.__init__", defArgs sKInit, defBody sKInit, defScope sKInit, [], []⟩
def dKP : He.DefD := ⟨("Crowd", some "put_on"), "put_on", "Crowd.put_on", defArgs sPutOn, defBody sPutOn, defScope sPutOn, [], []⟩
def dKL : He.DefD := ⟨("Crowd", some "leave_all"), "leave_all", "Crowd.leave_all", defArgs sLeaveAll, defBody sLeaveAll, defScope sLeaveAll, [], []⟩
def dKH : He.DefD := ⟨("Crowd", some "how_many"), "how_many", "Crowd.how_many", defArgs sHowMany, defBody sHowMany, defScope sHowMany, [], []⟩
def dKS : He.DefD := ⟨("Crowd", some "stands_on"), "stands_on", "Crowd.stands_on", defArgs sStandsOn, defBody sStandsOn, defScope sStandsOn, [], []⟩
def dKT : He.DefD := ⟨("Crowd", some "take_step"), "take_step", "Crowd.take_step", defArgs sTakeStep, defBody sTakeStep, defScope sTakeStep, [], []⟩
def dKG : He.DefD := ⟨("Crowd", some "goes_to"), "goes_to", "Crowd.goes_to", defArgs sGoesTo, defBody sGoesTo, defScope sGoesTo, [], []⟩
def dKV : He.DefD := ⟨("Crowd", some "leave_goals"), "leave_goals", "Crowd.leave_goals", defArgs sLeaveG, defBody sLeaveG, defScope sLeaveG, [], []⟩
def dTU : He.DefD := ⟨("turns", none), "turns", "turns", defArgs sTurns, defBody sTurns, defScope sTurns, [], []⟩
def dNR : He.DefD := ⟨("nearer_spots", none), "nearer_spots", "nearer_spots", defArgs sNearer, defBody sNearer, defScope sNearer, [], []⟩
def dLI : He.DefD := ⟨("Land", some "__init__"), "__init__", "Land.__init__", defArgs sLInit, defBody sLInit, defScope sLInit, [], []⟩
def dLO : He.DefD := ⟨("Land", some "lay_out"), "lay_out", "Land.lay_out", defArgs sLayOut, defBody sLayOut, defScope sLayOut, [], []⟩
def dSC : He.DefD := ⟨("Land", some "set_cost"), "set_cost", "Land.set_cost", defArgs sSetCost, defBody sSetCost, defScope sSetCost, [], []⟩
def dAG : He.DefD := ⟨("Land", some "add_goal"), "add_goal", "Land.add_goal", defArgs sAddGoal, defBody sAddGoal, defScope sAddGoal, [], []⟩
def dDG : He.DefD := ⟨("Land", some "drop_goal"), "drop_goal", "Land.drop_goal", defArgs sDropGoal, defBody sDropGoal, defScope sDropGoal, [], []⟩
def dTF : He.DefD := ⟨("Land", some "tell_far"), "tell_far", "Land.tell_far", defArgs sTellFar, defBody sTellFar, defScope sTellFar, [], []⟩
def dTD : He.DefD := ⟨("Land", some "tell_field"), "tell_field", "Land.tell_field", defArgs sTellField, defBody sTellField, defScope sTellField, [], []⟩
def dTW : He.DefD := ⟨("Land", some "tell_way"), "tell_way", "Land.tell_way", defArgs sTellWay, defBody sTellWay, defScope sTellWay, [], []⟩
def dTN : He.DefD := ⟨("Land", some "tell_next"), "tell_next", "Land.tell_next", defArgs sTellNext, defBody sTellNext, defScope sTellNext, [], []⟩
def dPF : He.DefD := ⟨("Land", some "put_figure"), "put_figure", "Land.put_figure", defArgs sPutFig, defBody sPutFig, defScope sPutFig, [], []⟩
def dLG : He.DefD := ⟨("Land", some "let_go"), "let_go", "Land.let_go", defArgs sLetGo, defBody sLetGo, defScope sLetGo, [], []⟩
def dTC : He.DefD := ⟨("Land", some "tell_crowd"), "tell_crowd", "Land.tell_crowd", defArgs sTellCrowd, defBody sTellCrowd, defScope sTellCrowd, [], []⟩
def dTH : He.DefD := ⟨("Land", some "tell_changed"), "tell_changed", "Land.tell_changed", defArgs sTellChg, defBody sTellChg, defScope sTellChg, [], []⟩
def dSO : He.DefD := ⟨("Land", some "spot_of"), "spot_of", "Land.spot_of", defArgs sSpotOf, defBody sSpotOf, defScope sSpotOf, [], []⟩
def dPO : He.DefD := ⟨("Land", some "place_of"), "place_of", "Land.place_of", defArgs sPlaceOf, defBody sPlaceOf, defScope sPlaceOf, [], []⟩
def dFI : He.DefD := ⟨("Land", some "field_if"), "field_if", "Land.field_if", defArgs sFieldIf, defBody sFieldIf, defScope sFieldIf, [], []⟩
def dRE : He.DefD := ⟨("Land", some "reckon"), "reckon", "Land.reckon", defArgs sReckon, defBody sReckon, defScope sReckon, [], []⟩
def dCN : He.DefD := ⟨("Land", some "count_near"), "count_near", "Land.count_near", defArgs sCountNear, defBody sCountNear, defScope sCountNear, [], []⟩
def dIM : He.DefD := ⟨("is_map", none), "is_map", "is_map", defArgs sIsMap, defBody sIsMap, defScope sIsMap, [], []⟩
def dIS : He.DefD := ⟨("is_side", none), "is_side", "is_side", defArgs sIsSide, defBody sIsSide, defScope sIsSide, [], []⟩
def dFF : He.DefD := ⟨("told_far", none), "told_far", "told_far", defArgs sToldFar, defBody sToldFar, defScope sToldFar, [], []⟩
def dRI : He.DefD := ⟨("Reader", some "__init__"), "__init__", "Reader.__init__", defArgs sRInit, defBody sRInit, defScope sRInit, [], []⟩
def dRM : He.DefD := ⟨("Reader", some "has_more"), "has_more", "Reader.has_more", defArgs sRMore, defBody sRMore, defScope sRMore, [], []⟩
def dRT : He.DefD := ⟨("Reader", some "take"), "take", "Reader.take", defArgs sRTake, defBody sRTake, defScope sRTake, [], []⟩
def dRP : He.DefD := ⟨("Reader", some "take_place"), "take_place", "Reader.take_place", defArgs sRPlace, defBody sRPlace, defScope sRPlace, [], []⟩
def dRW : He.DefD := ⟨("Reader", some "take_row"), "take_row", "Reader.take_row", defArgs sRRow, defBody sRRow, defScope sRRow, [], []⟩
def dAN : He.DefD := ⟨("answers", none), "answers", "answers", defArgs sAnswers, defBody sAnswers, defScope sAnswers, [], []⟩
def dK0 : He.DefD := ⟨("call_map", none), "call_map", "call_map", defArgs sCallMap, defBody sCallMap, defScope sCallMap, [], []⟩
def dK1 : He.DefD := ⟨("call_set", none), "call_set", "call_set", defArgs sCallSet, defBody sCallSet, defScope sCallSet, [], []⟩
def dK2 : He.DefD := ⟨("call_goal", none), "call_goal", "call_goal", defArgs sCallGoal, defBody sCallGoal, defScope sCallGoal, [], []⟩
def dK3 : He.DefD := ⟨("call_no_goal", none), "call_no_goal", "call_no_goal", defArgs sCallNoGoal, defBody sCallNoGoal, defScope sCallNoGoal, [], []⟩
def dK4 : He.DefD := ⟨("call_far", none), "call_far", "call_far", defArgs sCallFar, defBody sCallFar, defScope sCallFar, [], []⟩
def dK5 : He.DefD := ⟨("call_field", none), "call_field", "call_field", defArgs sCallField, defBody sCallField, defScope sCallField, [], []⟩
def dK6 : He.DefD := ⟨("call_way", none), "call_way", "call_way", defArgs sCallWay, defBody sCallWay, defScope sCallWay, [], []⟩
def dK7 : He.DefD := ⟨("call_next", none), "call_next", "call_next", defArgs sCallNext, defBody sCallNext, defScope sCallNext, [], []⟩
def dK8 : He.DefD := ⟨("call_put", none), "call_put", "call_put", defArgs sCallPut, defBody sCallPut, defScope sCallPut, [], []⟩
def dK9 : He.DefD := ⟨("call_go", none), "call_go", "call_go", defArgs sCallGo, defBody sCallGo, defScope sCallGo, [], []⟩
def dK10 : He.DefD := ⟨("call_crowd", none), "call_crowd", "call_crowd", defArgs sCallCrowd, defBody sCallCrowd, defScope sCallCrowd, [], []⟩
def dK11 : He.DefD := ⟨("call_changed", none), "call_changed", "call_changed", defArgs sCallChg, defBody sCallChg, defScope sCallChg, [], []⟩
def hFn : List He.DefD := [dB, dRF, dOG, dNE, dNX, dWT, dKI, dKP, dKL, dKH, dKS, dKT, dKG, dKV, dTU, dNR, dLI, dLO, dSC, dAG, dDG, dTF, dTD, dTW, dTN, dPF, dLG, dTC, dTH, dSO, dPO, dFI, dRE, dCN, dIM, dIS, dFF, dRI, dRM, dRT, dRP, dRW, dAN, dK0, dK1, dK2, dK3, dK4, dK5, dK6, dK7, dK8, dK9, dK10, dK11]
def hFa0 : List He.Fa := [.glo "Land", .cls "Land", .mkr "Land", .noat "Land" "wide", .noat "Land" "high", .noat "Land" "costs", .noat "Land" "goals", .noat "Land" "crowd", .noat "Land" "field", .glo "Crowd", .cls "Crowd", .mkr "Crowd", .noat "Crowd" "spots", .noat "Crowd" "given", .glo "Reader", .cls "Reader", .mkr "Reader", .noat "Reader" "numbers", .noat "Reader" "position", .glo "beside", .glo "reckon_field", .glo "open_goals", .glo "nearest", .glo "next_spot", .glo "way_told", .meth "Crowd" "put_on", .meth "Crowd" "leave_all", .meth "Crowd" "how_many", .meth "Crowd" "stands_on", .meth "Crowd" "take_step"]
def hFa1 : List He.Fa := [.meth "Crowd" "goes_to", .meth "Crowd" "leave_goals", .glo "turns", .glo "nearer_spots", .meth "Land" "lay_out", .meth "Land" "set_cost", .meth "Land" "add_goal", .meth "Land" "drop_goal", .meth "Land" "tell_far", .meth "Land" "tell_field", .meth "Land" "tell_way", .meth "Land" "tell_next", .meth "Land" "put_figure", .meth "Land" "let_go", .meth "Land" "tell_crowd", .meth "Land" "tell_changed", .meth "Land" "spot_of", .meth "Land" "place_of", .meth "Land" "field_if", .meth "Land" "reckon", .meth "Land" "count_near", .glo "is_map", .glo "is_side", .glo "told_far", .meth "Reader" "has_more", .meth "Reader" "take", .meth "Reader" "take_place", .meth "Reader" "take_row", .glo "answers", .glo "call_map"]
def hFa2 : List He.Fa := [.glo "call_set", .glo "call_goal", .glo "call_no_goal", .glo "call_far", .glo "call_field", .glo "call_way", .glo "call_next", .glo "call_put", .glo "call_go", .glo "call_crowd", .glo "call_changed", .int "DEAREST" 99, .int "LONGEST_SIDE" 12, .int "MOST_GOALS" 6, .int "MOST_FIGURES" 12, .int "MOST_STEPS" 60, .int "BAD_NUMBER" (-1), .int "NOT_THERE" (-2), .int "TAKEN" (-4), .int "TOO_MANY" (-5), .int "NOWHERE" (-6), .int "AT_GOAL" (-7), .free "len", .free "min", .free "max", .free "list", .free "sorted", .free "range", .glo "CALLS"]
def hFa : List He.Fa := hFa0 ++ hFa1 ++ hFa2
def hTf : List He.Defn := [("nearest", none), ("Crowd", some "goes_to"), ("turns", none)]
abbrev tb1 (K : PySem.W.Frag) : Addr × Addr := He.cT K ("nearest", none)
abbrev tb2 (K : PySem.W.Frag) : Addr × Addr := He.cT K ("Crowd", some "goes_to")
abbrev tb3 (K : PySem.W.Frag) : Addr × Addr := He.cT K ("turns", none)
def hCalls : List He.Dv := [.glo "call_map", .glo "call_set", .glo "call_goal", .glo "call_no_goal", .glo "call_far", .glo "call_field", .glo "call_way", .glo "call_next", .glo "call_put", .glo "call_go", .glo "call_crowd", .glo "call_changed"]
def hEx (K : PySem.W.Frag) : Bool := He.tupB K "CALLS" hCalls && (decide ((tb1 K).2 ≠ (tb2 K).2) && (decide ((tb1 K).2 ≠ (tb3 K).2) && decide ((tb2 K).2 ≠ (tb3 K).2)))
abbrev hRow : PySem.W.OpenSpec := PySem.Challenge.rw_goalfields_s01_answers
abbrev hView : Program := PySem.W.view hRow.prog [30]
def hLo0 : List Str := ["beside", "reckon_field", "open_goals", "nearest", "next_spot", "way_told", "Crowd", "turns", "nearer_spots", "DEAREST", "LONGEST_SIDE", "MOST_GOALS"]
def hLo1 : List Str := ["MOST_FIGURES", "MOST_STEPS", "BAD_NUMBER", "NOT_THERE", "TAKEN", "TOO_MANY", "NOWHERE", "AT_GOAL", "Land", "is_map", "is_side", "told_far"]
def hLo2 : List Str := ["Reader", "call_map", "call_set", "call_goal", "call_no_goal", "call_far", "call_field", "call_way", "call_next", "call_put", "call_go", "call_crowd"]
def hLo3 : List Str := ["call_changed", "CALLS"]
def hLoose : List Str := hLo0 ++ hLo1 ++ hLo2 ++ hLo3
abbrev hHk : PySem.W.Hook := He.hookX 5 hFa hFn [] hTf hEx
def hOb (s : PySem.W.SharedT) : He.AlX := He.obsX 5 hFa hFn [] hTf hEx (HandSHeadRun.getT s)
theorem hOb_eq (s : PySem.W.SharedT) : hOb s = hHk.obs s.abs := He.obsX_eq (HandSHeadRun.getT_eq s)
set_option maxHeartbeats 0 in
theorem hRun (w : World) : HandSHeadRun.RunEqS hRow hView hHk hOb 4000 hLoose w := by
  intro os
  kernel_rfl
end Gf
set_option Elab.async false
set_option linter.all false
set_option maxRecDepth 100000
set_option maxHeartbeats 4000000
namespace Gf
open PySem PySem.Spec PyProof.Rows L2 LamX NdefX
/-- the request, as answers' promise asks it -/
theorem req {K : PySem.W.Frag} {T : List (Addr × Str)} (H : Hp) (xs : List V) (a : PySem.W.Codec.denoteAll hRow.args) (tb : Tabs T H) (hO : OnlyT H) (hw : PySem.W.Codec.withinAll hRow.args a = true) (hk : PySem.W.Codec.app hRow.args hRow.asked a = true)
    (hx : DwAll K H xs (PySem.W.Codec.encAll hRow.args a)) : spAnswers K T xs H (fun v H' => Dw K H' v (hRow.ret.enc (PySem.W.Codec.app hRow.args hRow.f a))) fun _ _ _ => False := by
  cases hx with
  | cons h1 h2 =>
    cases h2
    cases h1 with
    | lst hs ha =>
      have e := ints_dw a.1 _ ha
      subst e
      have q : ((PySem.W.Codec.inLen 0 4920 a.1 && a.1.all (PySem.W.Codec.inInt 0 4294967295)) && true) = true := hw
      rw [Bool.and_eq_true, Bool.and_eq_true] at q
      obtain ⟨cs, e1, e2, e3, e4, e5⟩ := asked_is (ns := a.1) hk
      have hl := (PySem.W.Codec.inNat_iff.mp q.1.1).2
      refine ⟨_, cs, rfl, fzL_of hO (by rw [← e1]; exact hs), by rw [← e1]; omega, e3, e5, tb, fun H' p hp => ?_⟩
      have z : Dw K H' (.ref p) (.list ((PyFlat.told (play Ge07.init cs)).map PySem.W.WData.int)) := .lst (SqL.of hp) (dw_ints _)
      rw [← e4] at z
      exact z
theorem all_facts {w : World} {K : PySem.W.Frag} {h : Heap} {mg : Str → Option Value} {fa : Addr} (X : K.In h) (G : h.Ns mainGlobals mg) (hfa : mg ("answers" : Str) = some (.ref fa)) (cX : He.SaysX hFa hFn [] hTf hEx w h K) : SpecAt hRow w K 10 ["calls"] mg fa h := by
  have c : He.SaysD hFa hFn K := cX.t.d
  obtain ⟨fdB, DB⟩ := c.def_ 0 (d := dB) rfl
  obtain ⟨fdRF, DRF⟩ := c.def_ 1 (d := dRF) rfl
  obtain ⟨fdOG, DOG⟩ := c.def_ 2 (d := dOG) rfl
  obtain ⟨fdNE, DNE⟩ := c.def_ 3 (d := dNE) rfl
  obtain ⟨fdNX, DNX⟩ := c.def_ 4 (d := dNX) rfl
  obtain ⟨fdWT, DWT⟩ := c.def_ 5 (d := dWT) rfl
  obtain ⟨fdKI, DKI⟩ := c.def_ 6 (d := dKI) rfl
  obtain ⟨fdKP, DKP⟩ := c.def_ 7 (d := dKP) rfl
  obtain ⟨fdKL, DKL⟩ := c.def_ 8 (d := dKL) rfl
  obtain ⟨fdKH, DKH⟩ := c.def_ 9 (d := dKH) rfl
  obtain ⟨fdKS, DKS⟩ := c.def_ 10 (d := dKS) rfl
  obtain ⟨fdKT, DKT⟩ := c.def_ 11 (d := dKT) rfl
  obtain ⟨fdKG, DKG⟩ := c.def_ 12 (d := dKG) rfl
  obtain ⟨fdKV, DKV⟩ := c.def_ 13 (d := dKV) rfl
  obtain ⟨fdTU, DTU⟩ := c.def_ 14 (d := dTU) rfl
  obtain ⟨fdNR, DNR⟩ := c.def_ 15 (d := dNR) rfl
  obtain ⟨fdLI, DLI⟩ := c.def_ 16 (d := dLI) rfl
  obtain ⟨fdLO, DLO⟩ := c.def_ 17 (d := dLO) rfl
  obtain ⟨fdSC, DSC⟩ := c.def_ 18 (d := dSC) rfl
  obtain ⟨fdAG, DAG⟩ := c.def_ 19 (d := dAG) rfl
  obtain ⟨fdDG, DDG⟩ := c.def_ 20 (d := dDG) rfl
  obtain ⟨fdTF, DTF⟩ := c.def_ 21 (d := dTF) rfl
  obtain ⟨fdTD, DTD⟩ := c.def_ 22 (d := dTD) rfl
  obtain ⟨fdTW, DTW⟩ := c.def_ 23 (d := dTW) rfl
  obtain ⟨fdTN, DTN⟩ := c.def_ 24 (d := dTN) rfl
  obtain ⟨fdPF, DPF⟩ := c.def_ 25 (d := dPF) rfl
  obtain ⟨fdLG, DLG⟩ := c.def_ 26 (d := dLG) rfl
  obtain ⟨fdTC, DTC⟩ := c.def_ 27 (d := dTC) rfl
  obtain ⟨fdTH, DTH⟩ := c.def_ 28 (d := dTH) rfl
  obtain ⟨fdSO, DSO⟩ := c.def_ 29 (d := dSO) rfl
  obtain ⟨fdPO, DPO⟩ := c.def_ 30 (d := dPO) rfl
  obtain ⟨fdFI, DFI⟩ := c.def_ 31 (d := dFI) rfl
  obtain ⟨fdRE, DRE⟩ := c.def_ 32 (d := dRE) rfl
  obtain ⟨fdCN, DCN⟩ := c.def_ 33 (d := dCN) rfl
  obtain ⟨fdIM, DIM⟩ := c.def_ 34 (d := dIM) rfl
  obtain ⟨fdIS, DIS⟩ := c.def_ 35 (d := dIS) rfl
  obtain ⟨fdFF, DFF⟩ := c.def_ 36 (d := dFF) rfl
  obtain ⟨fdRI, DRI⟩ := c.def_ 37 (d := dRI) rfl
  obtain ⟨fdRM, DRM⟩ := c.def_ 38 (d := dRM) rfl
  obtain ⟨fdRT, DRT⟩ := c.def_ 39 (d := dRT) rfl
  obtain ⟨fdRP, DRP⟩ := c.def_ 40 (d := dRP) rfl
  obtain ⟨fdRW, DRW⟩ := c.def_ 41 (d := dRW) rfl
  obtain ⟨fdAN, DAN⟩ := c.def_ 42 (d := dAN) rfl
  obtain ⟨fdK0, DK0⟩ := c.def_ 43 (d := dK0) rfl
  obtain ⟨fdK1, DK1⟩ := c.def_ 44 (d := dK1) rfl
  obtain ⟨fdK2, DK2⟩ := c.def_ 45 (d := dK2) rfl
  obtain ⟨fdK3, DK3⟩ := c.def_ 46 (d := dK3) rfl
  obtain ⟨fdK4, DK4⟩ := c.def_ 47 (d := dK4) rfl
  obtain ⟨fdK5, DK5⟩ := c.def_ 48 (d := dK5) rfl
  obtain ⟨fdK6, DK6⟩ := c.def_ 49 (d := dK6) rfl
  obtain ⟨fdK7, DK7⟩ := c.def_ 50 (d := dK7) rfl
  obtain ⟨fdK8, DK8⟩ := c.def_ 51 (d := dK8) rfl
  obtain ⟨fdK9, DK9⟩ := c.def_ 52 (d := dK9) rfl
  obtain ⟨fdK10, DK10⟩ := c.def_ 53 (d := dK10) rfl
  obtain ⟨fdK11, DK11⟩ := c.def_ 54 (d := dK11) rfl
  have gL := He.glo_ok X G (c.fact 0 (f := .glo "Land") rfl)
  have mkL := He.mkr_ok (c.fact 2 (f := .mkr "Land") rfl)
  have TL : LTxt K mg (He.ga K "Land") := ⟨He.cls_ok (c.fact 1 (f := .cls "Land") rfl), He.noat_ok (c.fact 3 (f := .noat "Land" "wide") rfl), He.noat_ok (c.fact 4 (f := .noat "Land" "high") rfl), He.noat_ok (c.fact 5 (f := .noat "Land" "costs") rfl), He.noat_ok (c.fact 6 (f := .noat "Land" "goals") rfl), He.noat_ok (c.fact 7 (f := .noat "Land" "crowd") rfl), He.noat_ok (c.fact 8 (f := .noat "Land" "field") rfl), gL⟩
  have gK := He.glo_ok X G (c.fact 9 (f := .glo "Crowd") rfl)
  have mkK := He.mkr_ok (c.fact 11 (f := .mkr "Crowd") rfl)
  have TK : KTxt K mg (He.ga K "Crowd") := ⟨He.cls_ok (c.fact 10 (f := .cls "Crowd") rfl), He.noat_ok (c.fact 12 (f := .noat "Crowd" "spots") rfl), He.noat_ok (c.fact 13 (f := .noat "Crowd" "given") rfl), gK⟩
  have gR := He.glo_ok X G (c.fact 14 (f := .glo "Reader") rfl)
  have mkR := He.mkr_ok (c.fact 16 (f := .mkr "Reader") rfl)
  have TR : RTxt K mg (He.ga K "Reader") := ⟨He.cls_ok (c.fact 15 (f := .cls "Reader") rfl), He.noat_ok (c.fact 17 (f := .noat "Reader" "numbers") rfl), He.noat_ok (c.fact 18 (f := .noat "Reader" "position") rfl), gR⟩
  have FB : Fun K "beside" "beside" sBeside _ fdB := fun_ofD DB
  have uB := FB.binds (ps := ["wide", "high", "spot"]) fun _ _ _ _ _ _ us hl => match us, hl with | [_, _, _], _ => rfl
  have aB := He.glo_ok X G (c.fact 19 (f := .glo "beside") rfl)
  have FRF : Fun K "reckon_field" "reckon_field" sReckonF _ fdRF := fun_ofD DRF
  have uRF := FRF.binds (ps := ["wide", "high", "costs", "goals"]) fun _ _ _ _ _ _ us hl => match us, hl with | [_, _, _, _], _ => rfl
  have aRF := He.glo_ok X G (c.fact 20 (f := .glo "reckon_field") rfl)
  have FOG : Fun K "open_goals" "open_goals" sOpenGoals _ fdOG := fun_ofD DOG
  have uOG := FOG.binds (ps := ["costs", "goals"]) fun _ _ _ _ _ _ us hl => match us, hl with | [_, _], _ => rfl
  have aOG := He.glo_ok X G (c.fact 21 (f := .glo "open_goals") rfl)
  have FNE : Fun K "nearest" "nearest" sNearest _ fdNE := fun_ofD DNE
  have uNE := FNE.binds (ps := ["reached"]) fun _ _ _ _ _ _ us hl => match us, hl with | [_], _ => rfl
  have aNE := He.glo_ok X G (c.fact 22 (f := .glo "nearest") rfl)
  have FNX : Fun K "next_spot" "next_spot" sNextSpot _ fdNX := fun_ofD DNX
  have uNX := FNX.binds (ps := ["wide", "high", "costs", "field", "spot"]) fun _ _ _ _ _ _ us hl => match us, hl with | [_, _, _, _, _], _ => rfl
  have aNX := He.glo_ok X G (c.fact 23 (f := .glo "next_spot") rfl)
  have FWT : Fun K "way_told" "way_told" sWayTold _ fdWT := fun_ofD DWT
  have uWT := FWT.binds (ps := ["wide", "high", "costs", "field", "spot"]) fun _ _ _ _ _ _ us hl => match us, hl with | [_, _, _, _, _], _ => rfl
  have aWT := He.glo_ok X G (c.fact 24 (f := .glo "way_told") rfl)
  have FKI : Fun K "__init__" "Crowd.__init__" sKInit _ fdKI := fun_ofD DKI
  have uKI := FKI.binds (ps := ["self"]) fun _ _ _ _ _ _ us hl => match us, hl with | [_], _ => rfl
  have FKP : Fun K "put_on" "Crowd.put_on" sPutOn _ fdKP := fun_ofD DKP
  have uKP := FKP.binds (ps := ["self", "spot"]) fun _ _ _ _ _ _ us hl => match us, hl with | [_, _], _ => rfl
  have mKP := He.meth_ok (c.fact 25 (f := .meth "Crowd" "put_on") rfl)
  have FKL : Fun K "leave_all" "Crowd.leave_all" sLeaveAll _ fdKL := fun_ofD DKL
  have uKL := FKL.binds (ps := ["self"]) fun _ _ _ _ _ _ us hl => match us, hl with | [_], _ => rfl
  have mKL := He.meth_ok (c.fact 26 (f := .meth "Crowd" "leave_all") rfl)
  have FKH : Fun K "how_many" "Crowd.how_many" sHowMany _ fdKH := fun_ofD DKH
  have uKH := FKH.binds (ps := ["self"]) fun _ _ _ _ _ _ us hl => match us, hl with | [_], _ => rfl
  have mKH := He.meth_ok (c.fact 27 (f := .meth "Crowd" "how_many") rfl)
  have FKS : Fun K "stands_on" "Crowd.stands_on" sStandsOn _ fdKS := fun_ofD DKS
  have uKS := FKS.binds (ps := ["self", "spot"]) fun _ _ _ _ _ _ us hl => match us, hl with | [_, _], _ => rfl
  have mKS := He.meth_ok (c.fact 28 (f := .meth "Crowd" "stands_on") rfl)
  have FKT : Fun K "take_step" "Crowd.take_step" sTakeStep _ fdKT := fun_ofD DKT
  have uKT := FKT.binds (ps := ["self", "wide", "high", "field"]) fun _ _ _ _ _ _ us hl => match us, hl with | [_, _, _, _], _ => rfl
  have mKT := He.meth_ok (c.fact 29 (f := .meth "Crowd" "take_step") rfl)
  have FKG : Fun K "goes_to" "Crowd.goes_to" sGoesTo _ fdKG := fun_ofD DKG
  have uKG := FKG.binds (ps := ["self", "wide", "high", "field", "spot"]) fun _ _ _ _ _ _ us hl => match us, hl with | [_, _, _, _, _], _ => rfl
  have mKG := He.meth_ok (c.fact 30 (f := .meth "Crowd" "goes_to") rfl)
  have FKV : Fun K "leave_goals" "Crowd.leave_goals" sLeaveG _ fdKV := fun_ofD DKV
  have uKV := FKV.binds (ps := ["self", "field"]) fun _ _ _ _ _ _ us hl => match us, hl with | [_, _], _ => rfl
  have mKV := He.meth_ok (c.fact 31 (f := .meth "Crowd" "leave_goals") rfl)
  have FTU : Fun K "turns" "turns" sTurns _ fdTU := fun_ofD DTU
  have uTU := FTU.binds (ps := ["spots", "field"]) fun _ _ _ _ _ _ us hl => match us, hl with | [_, _], _ => rfl
  have aTU := He.glo_ok X G (c.fact 32 (f := .glo "turns") rfl)
  have FNR : Fun K "nearer_spots" "nearer_spots" sNearer _ fdNR := fun_ofD DNR
  have uNR := FNR.binds (ps := ["wide", "high", "field", "spot"]) fun _ _ _ _ _ _ us hl => match us, hl with | [_, _, _, _], _ => rfl
  have aNR := He.glo_ok X G (c.fact 33 (f := .glo "nearer_spots") rfl)
  have FLI : Fun K "__init__" "Land.__init__" sLInit _ fdLI := fun_ofD DLI
  have uLI := FLI.binds (ps := ["self"]) fun _ _ _ _ _ _ us hl => match us, hl with | [_], _ => rfl
  have FLO : Fun K "lay_out" "Land.lay_out" sLayOut _ fdLO := fun_ofD DLO
  have uLO := FLO.binds (ps := ["self", "wide", "high", "costs"]) fun _ _ _ _ _ _ us hl => match us, hl with | [_, _, _, _], _ => rfl
  have mLO := He.meth_ok (c.fact 34 (f := .meth "Land" "lay_out") rfl)
  have FSC : Fun K "set_cost" "Land.set_cost" sSetCost _ fdSC := fun_ofD DSC
  have uSC := FSC.binds (ps := ["self", "place", "cost"]) fun _ _ _ _ _ _ us hl => match us, hl with | [_, _, _], _ => rfl
  have mSC := He.meth_ok (c.fact 35 (f := .meth "Land" "set_cost") rfl)
  have FAG : Fun K "add_goal" "Land.add_goal" sAddGoal _ fdAG := fun_ofD DAG
  have uAG := FAG.binds (ps := ["self", "place"]) fun _ _ _ _ _ _ us hl => match us, hl with | [_, _], _ => rfl
  have mAG := He.meth_ok (c.fact 36 (f := .meth "Land" "add_goal") rfl)
  have FDG : Fun K "drop_goal" "Land.drop_goal" sDropGoal _ fdDG := fun_ofD DDG
  have uDG := FDG.binds (ps := ["self", "place"]) fun _ _ _ _ _ _ us hl => match us, hl with | [_, _], _ => rfl
  have mDG := He.meth_ok (c.fact 37 (f := .meth "Land" "drop_goal") rfl)
  have FTF : Fun K "tell_far" "Land.tell_far" sTellFar _ fdTF := fun_ofD DTF
  have uTF := FTF.binds (ps := ["self", "place"]) fun _ _ _ _ _ _ us hl => match us, hl with | [_, _], _ => rfl
  have mTF := He.meth_ok (c.fact 38 (f := .meth "Land" "tell_far") rfl)
  have FTD : Fun K "tell_field" "Land.tell_field" sTellField _ fdTD := fun_ofD DTD
  have uTD := FTD.binds (ps := ["self"]) fun _ _ _ _ _ _ us hl => match us, hl with | [_], _ => rfl
  have mTD := He.meth_ok (c.fact 39 (f := .meth "Land" "tell_field") rfl)
  have FTW : Fun K "tell_way" "Land.tell_way" sTellWay _ fdTW := fun_ofD DTW
  have uTW := FTW.binds (ps := ["self", "place"]) fun _ _ _ _ _ _ us hl => match us, hl with | [_, _], _ => rfl
  have mTW := He.meth_ok (c.fact 40 (f := .meth "Land" "tell_way") rfl)
  have FTN : Fun K "tell_next" "Land.tell_next" sTellNext _ fdTN := fun_ofD DTN
  have uTN := FTN.binds (ps := ["self", "place"]) fun _ _ _ _ _ _ us hl => match us, hl with | [_, _], _ => rfl
  have mTN := He.meth_ok (c.fact 41 (f := .meth "Land" "tell_next") rfl)
  have FPF : Fun K "put_figure" "Land.put_figure" sPutFig _ fdPF := fun_ofD DPF
  have uPF := FPF.binds (ps := ["self", "place"]) fun _ _ _ _ _ _ us hl => match us, hl with | [_, _], _ => rfl
  have mPF := He.meth_ok (c.fact 42 (f := .meth "Land" "put_figure") rfl)
  have FLG : Fun K "let_go" "Land.let_go" sLetGo _ fdLG := fun_ofD DLG
  have uLG := FLG.binds (ps := ["self", "steps"]) fun _ _ _ _ _ _ us hl => match us, hl with | [_, _], _ => rfl
  have mLG := He.meth_ok (c.fact 43 (f := .meth "Land" "let_go") rfl)
  have FTC : Fun K "tell_crowd" "Land.tell_crowd" sTellCrowd _ fdTC := fun_ofD DTC
  have uTC := FTC.binds (ps := ["self"]) fun _ _ _ _ _ _ us hl => match us, hl with | [_], _ => rfl
  have mTC := He.meth_ok (c.fact 44 (f := .meth "Land" "tell_crowd") rfl)
  have FTH : Fun K "tell_changed" "Land.tell_changed" sTellChg _ fdTH := fun_ofD DTH
  have uTH := FTH.binds (ps := ["self", "place", "cost"]) fun _ _ _ _ _ _ us hl => match us, hl with | [_, _, _], _ => rfl
  have mTH := He.meth_ok (c.fact 45 (f := .meth "Land" "tell_changed") rfl)
  have FSO : Fun K "spot_of" "Land.spot_of" sSpotOf _ fdSO := fun_ofD DSO
  have uSO := FSO.binds (ps := ["self", "place"]) fun _ _ _ _ _ _ us hl => match us, hl with | [_, _], _ => rfl
  have mSO := He.meth_ok (c.fact 46 (f := .meth "Land" "spot_of") rfl)
  have FPO : Fun K "place_of" "Land.place_of" sPlaceOf _ fdPO := fun_ofD DPO
  have uPO := FPO.binds (ps := ["self", "spot"]) fun _ _ _ _ _ _ us hl => match us, hl with | [_, _], _ => rfl
  have mPO := He.meth_ok (c.fact 47 (f := .meth "Land" "place_of") rfl)
  have FFI : Fun K "field_if" "Land.field_if" sFieldIf _ fdFI := fun_ofD DFI
  have uFI := FFI.binds (ps := ["self", "spot", "cost"]) fun _ _ _ _ _ _ us hl => match us, hl with | [_, _, _], _ => rfl
  have mFI := He.meth_ok (c.fact 48 (f := .meth "Land" "field_if") rfl)
  have FRE : Fun K "reckon" "Land.reckon" sReckon _ fdRE := fun_ofD DRE
  have uRE := FRE.binds (ps := ["self"]) fun _ _ _ _ _ _ us hl => match us, hl with | [_], _ => rfl
  have mRE := He.meth_ok (c.fact 49 (f := .meth "Land" "reckon") rfl)
  have FCN : Fun K "count_near" "Land.count_near" sCountNear _ fdCN := fun_ofD DCN
  have uCN := FCN.binds (ps := ["self"]) fun _ _ _ _ _ _ us hl => match us, hl with | [_], _ => rfl
  have mCN := He.meth_ok (c.fact 50 (f := .meth "Land" "count_near") rfl)
  have FIM : Fun K "is_map" "is_map" sIsMap _ fdIM := fun_ofD DIM
  have uIM := FIM.binds (ps := ["wide", "high", "costs"]) fun _ _ _ _ _ _ us hl => match us, hl with | [_, _, _], _ => rfl
  have aIM := He.glo_ok X G (c.fact 51 (f := .glo "is_map") rfl)
  have FIS : Fun K "is_side" "is_side" sIsSide _ fdIS := fun_ofD DIS
  have uIS := FIS.binds (ps := ["length"]) fun _ _ _ _ _ _ us hl => match us, hl with | [_], _ => rfl
  have aIS := He.glo_ok X G (c.fact 52 (f := .glo "is_side") rfl)
  have FFF : Fun K "told_far" "told_far" sToldFar _ fdFF := fun_ofD DFF
  have uFF := FFF.binds (ps := ["far"]) fun _ _ _ _ _ _ us hl => match us, hl with | [_], _ => rfl
  have aFF := He.glo_ok X G (c.fact 53 (f := .glo "told_far") rfl)
  have FRI : Fun K "__init__" "Reader.__init__" sRInit _ fdRI := fun_ofD DRI
  have uRI := FRI.binds (ps := ["self", "numbers"]) fun _ _ _ _ _ _ us hl => match us, hl with | [_, _], _ => rfl
  have FRM : Fun K "has_more" "Reader.has_more" sRMore _ fdRM := fun_ofD DRM
  have uRM := FRM.binds (ps := ["self"]) fun _ _ _ _ _ _ us hl => match us, hl with | [_], _ => rfl
  have mRM := He.meth_ok (c.fact 54 (f := .meth "Reader" "has_more") rfl)
  have FRT : Fun K "take" "Reader.take" sRTake _ fdRT := fun_ofD DRT
  have uRT := FRT.binds (ps := ["self"]) fun _ _ _ _ _ _ us hl => match us, hl with | [_], _ => rfl
  have mRT := He.meth_ok (c.fact 55 (f := .meth "Reader" "take") rfl)
  have FRP : Fun K "take_place" "Reader.take_place" sRPlace _ fdRP := fun_ofD DRP
  have uRP := FRP.binds (ps := ["self"]) fun _ _ _ _ _ _ us hl => match us, hl with | [_], _ => rfl
  have mRP := He.meth_ok (c.fact 56 (f := .meth "Reader" "take_place") rfl)
  have FRW : Fun K "take_row" "Reader.take_row" sRRow _ fdRW := fun_ofD DRW
  have uRW := FRW.binds (ps := ["self"]) fun _ _ _ _ _ _ us hl => match us, hl with | [_], _ => rfl
  have mRW := He.meth_ok (c.fact 57 (f := .meth "Reader" "take_row") rfl)
  have FAN : Fun K "answers" "answers" sAnswers _ fdAN := fun_ofD DAN
  have uAN := FAN.binds (ps := ["calls"]) fun _ _ _ _ _ _ us hl => match us, hl with | [_], _ => rfl
  have aAN := He.glo_ok X G (c.fact 58 (f := .glo "answers") rfl)
  have FK0 : Fun K "call_map" "call_map" sCallMap _ fdK0 := fun_ofD DK0
  have uK0 := FK0.binds (ps := ["land", "reader"]) fun _ _ _ _ _ _ us hl => match us, hl with | [_, _], _ => rfl
  have aK0 := He.glo_ok X G (c.fact 59 (f := .glo "call_map") rfl)
  have FK1 : Fun K "call_set" "call_set" sCallSet _ fdK1 := fun_ofD DK1
  have uK1 := FK1.binds (ps := ["land", "reader"]) fun _ _ _ _ _ _ us hl => match us, hl with | [_, _], _ => rfl
  have aK1 := He.glo_ok X G (c.fact 60 (f := .glo "call_set") rfl)
  have FK2 : Fun K "call_goal" "call_goal" sCallGoal _ fdK2 := fun_ofD DK2
  have uK2 := FK2.binds (ps := ["land", "reader"]) fun _ _ _ _ _ _ us hl => match us, hl with | [_, _], _ => rfl
  have aK2 := He.glo_ok X G (c.fact 61 (f := .glo "call_goal") rfl)
  have FK3 : Fun K "call_no_goal" "call_no_goal" sCallNoGoal _ fdK3 := fun_ofD DK3
  have uK3 := FK3.binds (ps := ["land", "reader"]) fun _ _ _ _ _ _ us hl => match us, hl with | [_, _], _ => rfl
  have aK3 := He.glo_ok X G (c.fact 62 (f := .glo "call_no_goal") rfl)
  have FK4 : Fun K "call_far" "call_far" sCallFar _ fdK4 := fun_ofD DK4
  have uK4 := FK4.binds (ps := ["land", "reader"]) fun _ _ _ _ _ _ us hl => match us, hl with | [_, _], _ => rfl
  have aK4 := He.glo_ok X G (c.fact 63 (f := .glo "call_far") rfl)
  have FK5 : Fun K "call_field" "call_field" sCallField _ fdK5 := fun_ofD DK5
  have uK5 := FK5.binds (ps := ["land", "reader"]) fun _ _ _ _ _ _ us hl => match us, hl with | [_, _], _ => rfl
  have aK5 := He.glo_ok X G (c.fact 64 (f := .glo "call_field") rfl)
  have FK6 : Fun K "call_way" "call_way" sCallWay _ fdK6 := fun_ofD DK6
  have uK6 := FK6.binds (ps := ["land", "reader"]) fun _ _ _ _ _ _ us hl => match us, hl with | [_, _], _ => rfl
  have aK6 := He.glo_ok X G (c.fact 65 (f := .glo "call_way") rfl)
  have FK7 : Fun K "call_next" "call_next" sCallNext _ fdK7 := fun_ofD DK7
  have uK7 := FK7.binds (ps := ["land", "reader"]) fun _ _ _ _ _ _ us hl => match us, hl with | [_, _], _ => rfl
  have aK7 := He.glo_ok X G (c.fact 66 (f := .glo "call_next") rfl)
  have FK8 : Fun K "call_put" "call_put" sCallPut _ fdK8 := fun_ofD DK8
  have uK8 := FK8.binds (ps := ["land", "reader"]) fun _ _ _ _ _ _ us hl => match us, hl with | [_, _], _ => rfl
  have aK8 := He.glo_ok X G (c.fact 67 (f := .glo "call_put") rfl)
  have FK9 : Fun K "call_go" "call_go" sCallGo _ fdK9 := fun_ofD DK9
  have uK9 := FK9.binds (ps := ["land", "reader"]) fun _ _ _ _ _ _ us hl => match us, hl with | [_, _], _ => rfl
  have aK9 := He.glo_ok X G (c.fact 68 (f := .glo "call_go") rfl)
  have FK10 : Fun K "call_crowd" "call_crowd" sCallCrowd _ fdK10 := fun_ofD DK10
  have uK10 := FK10.binds (ps := ["land", "reader"]) fun _ _ _ _ _ _ us hl => match us, hl with | [_, _], _ => rfl
  have aK10 := He.glo_ok X G (c.fact 69 (f := .glo "call_crowd") rfl)
  have FK11 : Fun K "call_changed" "call_changed" sCallChg _ fdK11 := fun_ofD DK11
  have uK11 := FK11.binds (ps := ["land", "reader"]) fun _ _ _ _ _ _ us hl => match us, hl with | [_, _], _ => rfl
  have aK11 := He.glo_ok X G (c.fact 70 (f := .glo "call_changed") rfl)
  have mlen : mg "len" = none := He.free_ok X G (c.fact 82 (f := .free "len") rfl)
  have mmin : mg "min" = none := He.free_ok X G (c.fact 83 (f := .free "min") rfl)
  have mmax : mg "max" = none := He.free_ok X G (c.fact 84 (f := .free "max") rfl)
  have mlist : mg "list" = none := He.free_ok X G (c.fact 85 (f := .free "list") rfl)
  have msorted : mg "sorted" = none := He.free_ok X G (c.fact 86 (f := .free "sorted") rfl)
  have mrange : mg "range" = none := He.free_ok X G (c.fact 87 (f := .free "range") rfl)
  have CO : Consts mg := ⟨He.int_ok X G (c.fact 71 (f := .int "DEAREST" 99) rfl), He.int_ok X G (c.fact 72 (f := .int "LONGEST_SIDE" 12) rfl), He.int_ok X G (c.fact 73 (f := .int "MOST_GOALS" 6) rfl), He.int_ok X G (c.fact 74 (f := .int "MOST_FIGURES" 12) rfl), He.int_ok X G (c.fact 75 (f := .int "MOST_STEPS" 60) rfl), He.int_ok X G (c.fact 76 (f := .int "BAD_NUMBER" (-1)) rfl), He.int_ok X G (c.fact 77 (f := .int "NOT_THERE" (-2)) rfl), He.int_ok X G (c.fact 78 (f := .int "TAKEN" (-4)) rfl), He.int_ok X G (c.fact 79 (f := .int "TOO_MANY" (-5)) rfl), He.int_ok X G (c.fact 80 (f := .int "NOWHERE" (-6)) rfl), He.int_ok X G (c.fact 81 (f := .int "AT_GOAL" (-7)) rfl)⟩
  have aCALLS := He.glo_ok X G (c.fact 88 (f := .glo "CALLS") rfl)
  have e := hfa.symm.trans aAN
  cases e
  obtain ⟨x1, x2⟩ := He.ba cX.more
  obtain ⟨x3, x4⟩ := He.ba x2
  obtain ⟨x5, x6⟩ := He.ba x4
  have n12 : (tb1 K).2 ≠ (tb2 K).2 := of_decide_eq_true x3
  have n13 : (tb1 K).2 ≠ (tb3 K).2 := of_decide_eq_true x5
  have n23 : (tb2 K).2 ≠ (tb3 K).2 := of_decide_eq_true x6
  obtain ⟨oc1, kV1, doc1, pm1, ct1, od1, an1, osl1, ef1, lk1, hcd1⟩ := tab_ofD (x := "nearest") (qual := "nearest") (st := sNearest) (p := ("nearest", none)) DNE
  obtain ⟨oc2, kV2, doc2, pm2, ct2, od2, an2, osl2, ef2, lk2, hcd2⟩ := tab_ofD (x := "goes_to") (qual := "Crowd.goes_to") (st := sGoesTo) (p := ("Crowd", some "goes_to")) DKG
  obtain ⟨oc3, kV3, doc3, pm3, ct3, od3, an3, osl3, ef3, lk3, hcd3⟩ := tab_ofD (x := "turns") (qual := "turns") (st := sTurns) (p := ("turns", none)) DTU
  let T : List (Addr × Str) := [((tb1 K).2, ("nearest.<locals>.<lambda>" : Str)), ((tb2 K).2, qGoesTo), ((tb3 K).2, qTurns)]
  have hu1 : ∀ p ∈ T, p.1 = (tb1 K).2 → p.2 = ("nearest.<locals>.<lambda>" : Str) := fun p hp e => by
    rcases List.mem_cons.mp hp with z | hp
    · rw [z]
    · rcases List.mem_cons.mp hp with z | hp
      · rw [z] at e
        exact absurd e.symm n12
      · rw [List.mem_singleton.mp hp] at e
        exact absurd e.symm n13
  have hu2 : ∀ p ∈ T, p.1 = (tb2 K).2 → p.2 = qGoesTo := fun p hp e => by
    rcases List.mem_cons.mp hp with z | hp
    · rw [z] at e
      exact absurd e n12
    · rcases List.mem_cons.mp hp with z | hp
      · rw [z]
      · rw [List.mem_singleton.mp hp] at e
        exact absurd e.symm n23
  have hu3 : ∀ p ∈ T, p.1 = (tb3 K).2 → p.2 = qTurns := fun p hp e => by
    rcases List.mem_cons.mp hp with z | hp
    · rw [z] at e
      exact absurd e n13
    · rcases List.mem_cons.mp hp with z | hp
      · rw [z] at e
        exact absurd e n23
      · rw [List.mem_singleton.mp hp]
  have b1 : ((tb1 K).2, ("nearest.<locals>.<lambda>" : Str)) ∈ T := List.mem_cons_self
  have b2 : ((tb2 K).2, qGoesTo) ∈ T := List.mem_cons_of_mem _ List.mem_cons_self
  have b3 : ((tb3 K).2, qTurns) ∈ T := List.mem_cons_of_mem _ (List.mem_cons_of_mem _ List.mem_cons_self)
  have tfm : ∀ p ∈ [tb1 K, tb2 K, tb3 K], ∃ q ∈ hTf, p = He.cT K q := fun p hp => by
    rcases List.mem_cons.mp hp with z | hp
    · exact ⟨_, List.mem_cons_self, z⟩
    · rcases List.mem_cons.mp hp with z | hp
      · exact ⟨_, List.mem_cons_of_mem _ List.mem_cons_self, z⟩
      · exact ⟨_, List.mem_cons_of_mem _ (List.mem_cons_of_mem _ List.mem_cons_self), List.mem_singleton.mp hp⟩
  refine ⟨fdAN, [tb1 K, tb2 K, tb3 K], spAnswers K T, fun p hp => ?_, FunD.bindsA (ps := ["calls"]) DAN fun _ _ _ _ _ _ us hl => match us, hl with | [_], _ => rfl, fun H xs a hH hO h1 h2 h3 => req H xs a (fun p hp => ?_) hO h1 h2 h3, fun base KB GB TB => ?_⟩
  · obtain ⟨q, hq, z⟩ := tfm p hp
    rw [z]
    exact ⟨cX.empty q hq, cX.out q hq, PySem.W.codeHd_of_K X (cX.hd q hq)⟩
  · rcases List.mem_cons.mp hp with z | hp
    · rw [z]
      exact LamX.TabS.nil (hH (tb1 K) List.mem_cons_self)
    · rcases List.mem_cons.mp hp with z | hp
      · rw [z]
        exact LamX.TabS.nil (hH (tb2 K) (List.mem_cons_of_mem _ List.mem_cons_self))
      · rw [List.mem_singleton.mp hp]
        exact LamX.TabS.nil (hH (tb3 K) (List.mem_cons_of_mem _ (List.mem_cons_of_mem _ List.mem_cons_self)))
  have TB1 := TB (tb1 K) List.mem_cons_self
  have TB2 := TB (tb2 K) (List.mem_cons_of_mem _ List.mem_cons_self)
  have TB3 := TB (tb3 K) (List.mem_cons_of_mem _ (List.mem_cons_of_mem _ List.mem_cons_self))
  have GB1 := ok_beside (P := hRow.prog) (w := w) (mg := mg) (base := base) (k := 0) FB
  have GO1 := ok_openGoals (P := hRow.prog) (w := w) (mg := mg) (base := base) (k := 0) FOG
  have GN1 : FnOk hRow.prog w K mg base CX0 3 (He.fAd K ("nearest", none)) fdNE ["reached"] (spNearest T) := by
    rw [ef1]
    exact ok_nearest (k := 0) (T := T) lk1 hcd1 mmin TB1 b1 hu1
  have GR1 := ok_reckonF (P := hRow.prog) (w := w) (k := 0) FRF GB1 uB aB FB.kp GO1 uOG aOG FOG.kp GN1 uNE aNE FNE.kp mlen mmin
  have GS1 := ok_standsOn (P := hRow.prog) (w := w) (base := base) (k := 0) FKS TK mlist
  have M : LMeth hRow.prog w K mg base (He.ga K "Land") (He.ga K "Crowd") T _ _ _ _ fdSO fdKS fdRE fdCN := ⟨TK, ok_spotOf (k := 0) FSO TL, uSO, mSO, GS1, uKS, mKS, ok_reckon (k := 0) FRE TL GR1 uRF aRF FRF.kp, uRE, mRE, ok_countNear (k := 0) FCN TL mlen, uCN, mCN⟩
  have GT1 := ok_rTake (P := hRow.prog) (w := w) (mg := mg) (base := base) (k := 0) FRT TR
  have R : RMeth hRow.prog w K mg base (He.ga K "Reader") _ _ _ fdRT fdRP fdRW := ⟨GT1, uRT, mRT, ok_rPlace (k := 0) FRP TR GT1 uRT mRT, uRP, mRP, ok_rRow (k := 0) FRW TR GT1 uRT mRT, uRW, mRW⟩
  have GH1 := ok_howMany (P := hRow.prog) (w := w) (base := base) (k := 0) FKH TK mlen
  have GP1 := ok_placeOf (P := hRow.prog) (w := w) (base := base) (k := 0) FPO TL
  have GX1 := ok_nextSpot (P := hRow.prog) (w := w) (k := 0) FNX GB1 uB aB FB.kp
  have GF1 := ok_toldFar (P := hRow.prog) (w := w) (mg := mg) (base := base) (k := 0) FFF
  have GNR := ok_nearer (P := hRow.prog) (w := w) (k := 0) FNR GB1 uB aB FB.kp
  have GG1 : FnOk hRow.prog w K mg base CX0 3 (He.fAd K ("Crowd", some "goes_to")) fdKG ["self", "wide", "high", "field", "spot"] (spGoesTo K (He.ga K "Crowd") T) := by
    rw [ef2]
    exact ok_goesTo (k := 0) (T := T) lk2 hcd2 TK mmin mlen TB2 b2 hu2 GNR uNR aNR FNR.kp GS1 uKS mKS
  have GU1 : FnOk hRow.prog w K mg base CX0 4 (He.fAd K ("turns", none)) fdTU ["spots", "field"] (spTurns K T) := by
    rw [ef3]
    exact ok_turns (k := 0) (T := T) lk3 hcd3 msorted TB3 b3 hu3
  have GT5 := ok_takeStep (P := hRow.prog) (w := w) (k := 0) FKT TK GU1 uTU aTU FTU.kp GG1 uKG mKG (ok_leaveG (k := 0) FKV TK) uKV mKV
  have G0 := ok_callMap (k := 0) FK0 TL TR R (ok_layOut (k := 0) FLO TL CO M (ok_isMap (k := 0) FIM CO (ok_isSide (k := 0) FIS CO) uIS aIS FIS.kp mlen mmax) uIM aIM FIM.kp (ok_leaveAll (k := 0) FKL TK) uKL mKL mlen mlist) uLO mLO
  have G1 := ok_callSet (k := 0) FK1 TL TR R (ok_setCost (k := 0) FSC TL CO M) uSC mSC
  have G2 := ok_callGoal (k := 0) FK2 TL TR R (ok_addGoal (k := 0) FAG TL CO mlen M) uAG mAG
  have G3 := ok_callNoGoal (k := 0) FK3 TL TR R (ok_dropGoal (k := 0) FDG TL CO M) uDG mDG
  have G4 := ok_callFar (k := 0) FK4 TL TR R (ok_tellFar (k := 0) FTF TL CO M) uTF mTF
  have G5 := ok_callField (P := hRow.prog) (w := w) (base := base) (CR := He.ga K "Reader") (CC := He.ga K "Crowd") (T := T) (k := 0) FK5 TL (ok_tellField (k := 0) FTD TL GF1 uFF aFF FFF.kp) uTD mTD
  have G6 := ok_callWay (k := 0) FK6 TL TR R (ok_tellWay (k := 0) FTW TL CO M GP1 uPO mPO (ok_wayTold (k := 0) FWT GX1 uNX aNX FNX.kp) uWT aWT FWT.kp mlen) uTW mTW
  have G7 := ok_callNext (k := 0) FK7 TL TR R (ok_tellNext (k := 0) FTN TL CO M GP1 uPO mPO GX1 uNX aNX FNX.kp) uTN mTN
  have G8 := ok_callPut (k := 0) FK8 TL TR R (ok_putFig (k := 0) FPF TL CO M GH1 uKH mKH (ok_putOn (k := 0) FKP TK) uKP mKP) uPF mPF
  have G9 := ok_callGo (k := 0) FK9 TL TR R (ok_letGo (k := 0) FLG TL CO TK GH1 uKH mKH GT5 uKT mKT mlen mrange) uLG mLG
  have G10 := ok_callCrowd (P := hRow.prog) (w := w) (base := base) (CR := He.ga K "Reader") (T := T) (k := 0) FK10 TL (ok_tellCrowd (k := 0) FTC TL TK GH1 uKH mKH GP1 uPO mPO) uTC mTC
  have G11 := ok_callChg (k := 0) FK11 TL TR R (ok_tellChg (k := 0) FTH TL CO M GP1 uPO mPO (ok_fieldIf (k := 0) FFI TL GR1 uRF aRF FRF.kp mlist) uFI mFI GF1 uFF aFF FFF.kp mlen mrange) uTH mTH
  refine ok_answers (k := 7) (fcs := [He.ga K "call_map", He.ga K "call_set", He.ga K "call_goal", He.ga K "call_no_goal", He.ga K "call_far", He.ga K "call_field", He.ga K "call_way", He.ga K "call_next", He.ga K "call_put", He.ga K "call_go", He.ga K "call_crowd", He.ga K "call_changed"]) FAN (landOk (He.ga K "Land") (He.ga K "Crowd")) TR TL.gC mkL (ok_lInit (k := 4) FLI TL TK mkK (ok_kInit (k := 0) FKI TK) uKI) uLI mkR (ok_rInit (k := 0) FRI TR) uRI (ok_rMore (k := 0) FRM TR mlen) uRM mRM GT1 uRT mRT
    aCALLS (fun H => He.tupB_ok x1 H) rfl (fun i fc hi => ?_) mlen
  match i, hi with
  | 0, hi => cases hi; exact ⟨_, _, G0, FK0.kp, uK0⟩
  | 1, hi => cases hi; exact ⟨_, _, G1, FK1.kp, uK1⟩
  | 2, hi => cases hi; exact ⟨_, _, G2, FK2.kp, uK2⟩
  | 3, hi => cases hi; exact ⟨_, _, G3, FK3.kp, uK3⟩
  | 4, hi => cases hi; exact ⟨_, _, G4, FK4.kp, uK4⟩
  | 5, hi => cases hi; exact ⟨_, _, G5, FK5.kp, uK5⟩
  | 6, hi => cases hi; exact ⟨_, _, G6, FK6.kp, uK6⟩
  | 7, hi => cases hi; exact ⟨_, _, G7, FK7.kp, uK7⟩
  | 8, hi => cases hi; exact ⟨_, _, G8, FK8.kp, uK8⟩
  | 9, hi => cases hi; exact ⟨_, _, G9, FK9.kp, uK9⟩
  | 10, hi => cases hi; exact ⟨_, _, G10, FK10.kp, uK10⟩
  | 11, hi => cases hi; exact ⟨_, _, G11, FK11.kp, uK11⟩
end Gf
open PySem PySem.W PyProof.Rows
set_option maxRecDepth 100000 in
set_option maxHeartbeats 8000000 in
theorem PySem.Challenge.cw_goalfields_s01_answers_holds : PySem.Challenge.rw_goalfields_s01_answers.Holds := by
  w_on
  refine HandSHeadRun.head_spec (r := Gf.hRow) (q := Gf.hView) (H := Gf.hHk) (ob := Gf.hOb) (M := 4000) (loose := Gf.hLoose) (d := HandSHeadRun.topDef Gf.hRow.prog 30) (kwd := []) Gf.hOb_eq (by kernel_rfl) (fun s => by kernel_rfl) Gf.hRun (by kernel_rfl) (by kernel_rfl) (by kernel_rfl) os_shapes (by first | assumption | decide +kernel) (by decide +kernel) ⟨rfl, rfl, rfl, rfl, rfl, by decide +kernel⟩ ?hw ?hc
  case hw => exact ⟨[.list [.int 5]], by decide +kernel, by decide +kernel⟩
  case hc =>
    refine Gf.walk_specTE (r := Gf.hRow) (k := 10) (ps := ["calls"]) (by decide +kernel) (by kernel_rfl) rfl ⟨rfl, by decide, by decide⟩ ?F
    intro w mg fa h Y G hmg0
    obtain ⟨K, KX, c⟩ := Y
    have hmg : mg ("answers" : PySem.Str) = some (.ref fa) := by
      have e : (HandSHeadRun.topDef Gf.hRow.prog 30).name = ("answers" : PySem.Str) := by kernel_rfl
      rw [← e]
      exact hmg0
    exact ⟨K, KX, Gf.all_facts KX G hmg c⟩
