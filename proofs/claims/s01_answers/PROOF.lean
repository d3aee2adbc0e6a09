import PyProof.Rows.All
import Wide.All
import OpenK.AllK
import Wide.FinOn
import Open.SpecLaws
import KE.OsGo
import HandS.ForSpec
import HandS.ForMost
import HandS.CallLocal
import PySem.Challenge.RW_flashgrades_s01_answers
set_option Elab.async false
set_option maxRecDepth 100000
set_option maxHeartbeats 4000000
namespace KM
open Kqk2

/-! ## sums -/
theorem sum_foldl : ∀ (l : List Nat) (a : Nat), l.foldl (fun x y => x + y) a = a + l.sum
  | [], a => by simp
  | x :: r, a => by
    rw [List.foldl_cons, sum_foldl r]
    simp only [List.sum_cons]
    omega
theorem sum_eq (l : List Nat) : Kqk2.sum l = l.sum := by
  unfold Kqk2.sum
  rw [sum_foldl]
  omega
/-! ## stages -/
/-- strictly ascending above lo, to n -/
def Asc (n : Nat) : Nat → List Nat → Prop
  | _, [] => True
  | lo, g :: r => lo < g ∧ g ≤ n ∧ Asc n g r
/-- power of the stages above lo -/
def pw (c : List Nat) : Nat → List Nat → Nat
  | _, [] => 0
  | lo, g :: r => (g - lo) * flowAt c g + pw c g r
theorem pw_eq_aux (c : List Nat) : ∀ (s : List Nat) (lo : Nat), ((List.zip (lo :: s) s).map fun p => (p.2 - p.1) * flowAt c p.2).sum = pw c lo s
  | [], lo => by simp [pw]
  | g :: r, lo => by
    show (((lo, g) :: List.zip (g :: r) r).map fun p : Nat × Nat => (p.2 - p.1) * flowAt c p.2).sum = pw c lo (g :: r)
    rw [List.map_cons, List.sum_cons, pw_eq_aux c r g]
    rfl
theorem power_eq (c s : List Nat) : Kqk2.power c s = pw c 0 s := by
  unfold Kqk2.power
  rw [sum_eq, pw_eq_aux]
theorem asc_mono {n : Nat} : ∀ {s : List Nat} {lo lo' : Nat}, lo' ≤ lo → Asc n lo s → Asc n lo' s
  | [], _, _, _, _ => trivial
  | _ :: _, _, _, h, ⟨a, b, d⟩ => ⟨by omega, b, d⟩
theorem asc_mem {n : Nat} : ∀ {s : List Nat} {lo x : Nat}, Asc n lo s → x ∈ s → lo < x ∧ x ≤ n
  | [], _, _, _, h => by cases h
  | g :: r, lo, x, ⟨a, b, d⟩, h => by
    rcases List.mem_cons.mp h with rfl | h
    · exact ⟨a, b⟩
    · have := asc_mem d h
      omega
theorem asc_len {n : Nat} : ∀ {s : List Nat} {lo : Nat}, lo ≤ n → Asc n lo s → lo + s.length ≤ n
  | [], _, h, _ => by simpa using h
  | g :: r, lo, h, ⟨a, b, d⟩ => by
    have := asc_len b d
    simp only [List.length_cons]
    omega
theorem areStages_iff_aux (n : Nat) : ∀ (s : List Nat) (lo : Nat), Asc n lo s ↔
    (∀ x, x ∈ s.head? → lo < x) ∧ (∀ g ∈ s, g ≤ n) ∧ (∀ p ∈ List.zip s (s.drop 1), p.1 < p.2)
  | [], lo => by simp [Asc]
  | [g], lo => by simp [Asc]
  | g :: h :: r, lo => by
    have ih := areStages_iff_aux n (h :: r) g
    unfold Asc
    rw [ih]
    simp only [List.head?_cons, Option.mem_def, Option.some.injEq, forall_eq', List.mem_cons, List.drop_succ_cons, List.drop_zero, List.zip_cons_cons, forall_eq_or_imp]
    constructor
    · rintro ⟨a, b, d, e, f⟩
      exact ⟨a, ⟨b, e⟩, d, f⟩
    · rintro ⟨a, ⟨b, e⟩, d, f⟩
      exact ⟨a, b, d, e, f⟩
theorem asc_areStages {c s : List Nat} : Kqk2.areStages c s = true ↔ Asc c.length 0 s := by
  unfold Kqk2.areStages
  rw [areStages_iff_aux]
  rw [Bool.and_eq_true, List.all_eq_true, List.all_eq_true]
  simp only [Bool.and_eq_true, decide_eq_true_eq]
  constructor
  · rintro ⟨a, b⟩
    refine ⟨fun x hx => ?_, fun g hg => (a g hg).2, b⟩
    cases s with
    | nil => cases hx
    | cons g r =>
      cases hx
      exact (a _ (by simp)).1
  · rintro ⟨a, b, d⟩
    refine ⟨fun g hg => ⟨?_, b g hg⟩, d⟩
    have := (asc_mem ((areStages_iff_aux c.length s 0).mpr ⟨a, b, d⟩) hg).1
    omega
/-! ## curves -/
def NI : Nat → List Nat → Prop
  | _, [] => True
  | lim, x :: r => x ≤ lim ∧ NI x r
theorem ni_mono : ∀ {l : List Nat} {a b : Nat}, a ≤ b → NI a l → NI b l
  | [], _, _, _, _ => trivial
  | _ :: _, _, _, h, ⟨x, y⟩ => ⟨by omega, y⟩
theorem ni_all : ∀ {l : List Nat} {a x : Nat}, NI a l → x ∈ l → x ≤ a
  | [], _, _, _, h => by cases h
  | y :: r, a, x, ⟨h1, h2⟩, h => by
    rcases List.mem_cons.mp h with rfl | h
    · exact h1
    · have := ni_all h2 h
      omega
theorem noninc_cons (x y : Nat) (r : List Nat) : isNonincreasing (x :: y :: r) = (decide (y ≤ x) && isNonincreasing (y :: r)) := rfl
theorem ni_iff : ∀ (l : List Nat) (a : Nat), NI a l ↔ isNonincreasing l = true ∧ ∀ x ∈ l, x ≤ a
  | [], a => by simp [NI, isNonincreasing]
  | [x], a => by simp [NI, isNonincreasing]
  | x :: y :: r, a => by
    have ih := ni_iff (y :: r) x
    show x ≤ a ∧ NI x (y :: r) ↔ _
    rw [noninc_cons, Bool.and_eq_true, decide_eq_true_eq]
    constructor
    · rintro ⟨p, q⟩
      refine ⟨⟨q.1, (ih.mp q).1⟩, fun z hz => ?_⟩
      rcases List.mem_cons.mp hz with rfl | hz
      · exact p
      · have := ni_all q hz
        omega
    · rintro ⟨⟨p, q⟩, s⟩
      refine ⟨s x (by simp), ?_⟩
      have hNI : NI a (y :: r) := (ni_iff (y :: r) a).mpr ⟨q, fun v hv => s v (List.mem_cons_of_mem _ hv)⟩
      exact ⟨p, hNI.2⟩
theorem isCurve_iff {c : List Nat} : isCurve c = true ↔ 1 ≤ c.length ∧ c.length ≤ 16 ∧ NI 1000 c := by
  unfold isCurve maxGrades
  rw [ni_iff]
  simp only [Bool.and_eq_true, decide_eq_true_eq, List.all_eq_true]
  constructor
  · rintro ⟨⟨⟨a, b⟩, d⟩, e⟩
    exact ⟨a, b, d, e⟩
  · rintro ⟨a, b, d, e⟩
    exact ⟨⟨⟨a, b⟩, d⟩, e⟩
end KM
namespace KM
open Kqk2
theorem flowAt_eq (c : List Nat) {g : Nat} (h : 0 < g) : flowAt c g = c.getD (g - 1) 0 := by
  unfold flowAt
  rw [if_neg (by omega)]
theorem ni_step : ∀ {c : List Nat} {a : Nat} (i : Nat), NI a c → c.getD (i + 1) 0 ≤ c.getD i 0
  | [], _, i, _ => by simp
  | [x], _, i, _ => by simp
  | x :: y :: r, a, 0, h => by simpa using h.2.1
  | x :: y :: r, a, i + 1, h => by
    have := ni_step (c := y :: r) i h.2
    simpa using this
theorem ni_anti {c : List Nat} {a : Nat} (h : NI a c) {i : Nat} : ∀ (j : Nat), c.getD (i + j) 0 ≤ c.getD i 0
  | 0 => Nat.le_refl _
  | j + 1 => Nat.le_trans (ni_step (i + j) h) (ni_anti h j)
theorem flow_anti {c : List Nat} {a g g' : Nat} (h : NI a c) (h0 : 0 < g) (hg : g ≤ g') : flowAt c g' ≤ flowAt c g := by
  rw [flowAt_eq c h0, flowAt_eq c (by omega)]
  have := ni_anti h (i := g - 1) (g' - g)
  rwa [show g - 1 + (g' - g) = g' - 1 by omega] at this
/-- the flows of the grades above lo up to lo + k, summed -/
theorem drop_sum_step (c : List Nat) (lo : Nat) : (c.drop lo).sum = c.getD lo 0 + (c.drop (lo + 1)).sum := by
  by_cases h : lo < c.length
  · rw [List.drop_eq_getElem_cons h, List.sum_cons, List.getD_eq_getElem?_getD, List.getElem?_eq_getElem h]
    rfl
  · rw [List.drop_eq_nil_of_le (by omega), List.drop_eq_nil_of_le (by omega), List.getD_eq_getElem?_getD, List.getElem?_eq_none (by omega)]
    rfl
theorem seg_le {c : List Nat} {a : Nat} (h : NI a c) (lo : Nat) : ∀ (k : Nat), k * c.getD (lo + k - 1) 0 + (c.drop (lo + k)).sum ≤ (c.drop lo).sum
  | 0 => by simp
  | k + 1 => by
    have ih := seg_le h lo k
    have e := drop_sum_step c (lo + k)
    have m : k * c.getD (lo + (k + 1) - 1) 0 ≤ k * c.getD (lo + k - 1) 0 := by
      cases k with
      | zero => simp
      | succ j =>
        apply Nat.mul_le_mul_left
        have := ni_step (lo + j) h
        rwa [show lo + (j + 1 + 1) - 1 = lo + j + 1 by omega, show lo + (j + 1) - 1 = lo + j by omega]
    rw [show lo + (k + 1) - 1 = lo + k by omega] at m ⊢
    rw [show lo + (k + 1) = lo + k + 1 by omega, Nat.succ_mul]
    omega
theorem pw_le {c : List Nat} {a n : Nat} (h : NI a c) : ∀ {s : List Nat} {lo : Nat}, Asc n lo s → pw c lo s ≤ (c.drop lo).sum
  | [], _, _ => Nat.zero_le _
  | g :: r, lo, ⟨h1, h2, h3⟩ => by
    have ih := pw_le h h3
    have sg := seg_le h lo (g - lo)
    rw [show lo + (g - lo) = g by omega] at sg
    show (g - lo) * flowAt c g + pw c g r ≤ _
    rw [flowAt_eq c (by omega)]
    omega
theorem power_le_sum {c s : List Nat} (hc : isCurve c = true) (hs : areStages c s = true) : Kqk2.power c s ≤ Kqk2.sum c := by
  rw [power_eq, sum_eq]
  exact pw_le (isCurve_iff.mp hc).2.2 (asc_areStages.mp hs)
theorem sum_le : ∀ {c : List Nat} {a : Nat}, NI a c → c.sum ≤ a * c.length
  | [], _, _ => Nat.zero_le _
  | x :: r, a, h => by
    have := sum_le (ni_mono h.1 h.2)
    rw [List.sum_cons, List.length_cons, Nat.mul_succ]
    have := h.1
    omega
theorem sum_bound {c : List Nat} (hc : isCurve c = true) : Kqk2.sum c ≤ 16000 := by
  obtain ⟨_, h2, h3⟩ := isCurve_iff.mp hc
  rw [sum_eq]
  have := sum_le h3
  have : 1000 * c.length ≤ 1000 * 16 := Nat.mul_le_mul_left _ h2
  omega
/-! ## the best stages -/
/-- one turn of the specification's search -/
def turn (c : List Nat) (k lo : Nat) (best : Option (Nat × List Nat)) (grade : Nat) : Option (Nat × List Nat) :=
  match bestFrom c k grade with
  | none => best
  | some above =>
    match best with
    | none => some ((grade - lo) * flowAt c grade + above.1, grade :: above.2)
    | some b => if b.1 < (grade - lo) * flowAt c grade + above.1 then some ((grade - lo) * flowAt c grade + above.1, grade :: above.2) else best
/-- the search over the first m grades above lo -/
def upTo (c : List Nat) (k lo m : Nat) : Option (Nat × List Nat) := (List.range m).foldl (fun b i => turn c k lo b (lo + i + 1)) none
theorem best_zero (c : List Nat) (lo : Nat) : bestFrom c 0 lo = some (0, []) := by
  unfold bestFrom
  rfl
theorem best_succ (c : List Nat) (k lo : Nat) : bestFrom c (k + 1) lo = upTo c k lo (c.length - lo) := by
  conv => lhs; unfold bestFrom
  unfold upTo turn
  congr 1
theorem upTo_zero (c : List Nat) (k lo : Nat) : upTo c k lo 0 = none := rfl
theorem upTo_succ (c : List Nat) (k lo m : Nat) : upTo c k lo (m + 1) = turn c k lo (upTo c k lo m) (lo + m + 1) := by
  unfold upTo
  rw [List.range_succ, List.foldl_append]
  rfl
theorem turn_none {c : List Nat} {k lo g : Nat} {b : Option (Nat × List Nat)} (h : bestFrom c k g = none) : turn c k lo b g = b := by
  unfold turn
  rw [h]
theorem turn_first {c : List Nat} {k lo g : Nat} {a : Nat × List Nat} (h : bestFrom c k g = some a) : turn c k lo none g = some ((g - lo) * flowAt c g + a.1, g :: a.2) := by
  unfold turn
  rw [h]
theorem turn_more {c : List Nat} {k lo g : Nat} {a b : Nat × List Nat} (h : bestFrom c k g = some a) :
    turn c k lo (some b) g = if b.1 < (g - lo) * flowAt c g + a.1 then some ((g - lo) * flowAt c g + a.1, g :: a.2) else some b := by
  unfold turn
  rw [h]
/-- what the search has found is stages, and the most so far -/
theorem upTo_spec (c : List Nat) (k lo : Nat) (hk : ∀ g, (k + g ≤ c.length ∨ k = 0) → ∃ b, bestFrom c k g = some b) (hn : ∀ g, ¬ (k + g ≤ c.length ∨ k = 0) → bestFrom c k g = none) :
    ∀ m, m + lo ≤ c.length → ((∃ i, i < m ∧ (k + (lo + i + 1) ≤ c.length ∨ k = 0)) → ∃ b, upTo c k lo m = some b)
  | 0, _, h => by
    obtain ⟨i, h, _⟩ := h
    omega
  | m + 1, hm, h => by
    rw [upTo_succ]
    by_cases e : k + (lo + m + 1) ≤ c.length ∨ k = 0
    · obtain ⟨a, ha⟩ := hk _ e
      cases hu : upTo c k lo m with
      | none => exact ⟨_, turn_first ha⟩
      | some b =>
        rw [turn_more ha]
        split
        · exact ⟨_, rfl⟩
        · exact ⟨_, rfl⟩
    · rw [turn_none (hn _ e)]
      obtain ⟨i, hi, hi2⟩ := h
      refine upTo_spec c k lo hk hn m (by omega) ⟨i, ?_, hi2⟩
      rcases Nat.lt_succ_iff_lt_or_eq.mp hi with hi | rfl
      · exact hi
      · exact absurd hi2 e
theorem upTo_none (c : List Nat) (k lo : Nat) (hn : ∀ g, ¬ (k + g ≤ c.length ∨ k = 0) → bestFrom c k g = none) :
    ∀ m, (∀ i, i < m → ¬ (k + (lo + i + 1) ≤ c.length ∨ k = 0)) → upTo c k lo m = none
  | 0, _ => rfl
  | m + 1, h => by
    rw [upTo_succ, turn_none (hn _ (h m (by omega)))]
    exact upTo_none c k lo hn m fun i hi => h i (by omega)
/-- there are best stages just where there is room for them -/
theorem best_room (c : List Nat) : ∀ (k lo : Nat), ((k + lo ≤ c.length ∨ k = 0) → ∃ b, bestFrom c k lo = some b) ∧ (¬ (k + lo ≤ c.length ∨ k = 0) → bestFrom c k lo = none)
  | 0, lo => ⟨fun _ => ⟨_, best_zero c lo⟩, fun h => absurd (Or.inr rfl) h⟩
  | k + 1, lo => by
    have ih := best_room c k
    rw [best_succ]
    constructor
    · intro h
      refine upTo_spec c k lo (fun g => (ih g).1) (fun g => (ih g).2) _ (by omega) ⟨0, by omega, ?_⟩
      omega
    · intro h
      refine upTo_none c k lo (fun g => (ih g).2) _ fun i hi => ?_
      omega
theorem best_some {c : List Nat} {k lo : Nat} (h : k + lo ≤ c.length) : ∃ b, bestFrom c k lo = some b := (best_room c k lo).1 (.inl h)
theorem best_none {c : List Nat} {k lo : Nat} (h : c.length < k + lo) (h0 : 0 < k) : bestFrom c k lo = none := (best_room c k lo).2 (by omega)
/-- behind the grades that leave room the search finds no more -/
theorem upTo_cut {c : List Nat} {k lo : Nat} (hk : 0 < k) : ∀ (d : Nat), upTo c k lo (c.length - k - lo + d) = upTo c k lo (c.length - k - lo)
  | 0 => rfl
  | d + 1 => by
    rw [← Nat.add_assoc, upTo_succ, turn_none (best_none (by omega) hk), upTo_cut hk d]
theorem best_upTo {c : List Nat} {k lo : Nat} (h : lo ≤ c.length) : bestFrom c (k + 1) lo = upTo c k lo (c.length - k - lo) := by
  rw [best_succ]
  cases k with
  | zero => rfl
  | succ k =>
    by_cases e : k + 1 + lo ≤ c.length
    · rw [← upTo_cut (c := c) (k := k + 1) (lo := lo) (by omega) (k + 1)]
      congr 1
      omega
    · have := upTo_cut (c := c) (k := k + 1) (lo := lo) (by omega) (c.length - lo)
      rw [show c.length - (k + 1) - lo = 0 by omega, Nat.zero_add] at this
      rw [this, show c.length - (k + 1) - lo = 0 by omega]
/-- what the search holds: stages above lo with their power -/
structure Held (c : List Nat) (k lo : Nat) (b : Nat × List Nat) : Prop where
  asc : Asc c.length lo b.2
  len : b.2.length = k
  val : b.1 = pw c lo b.2
theorem upTo_held {c : List Nat} {k lo : Nat} (hk : ∀ g b, bestFrom c k g = some b → Held c k g b) : ∀ m b, m + lo ≤ c.length → upTo c k lo m = some b → Held c (k + 1) lo b
  | 0, b, _, h => by cases h
  | m + 1, b, hm, h => by
    rw [upTo_succ] at h
    cases e : bestFrom c k (lo + m + 1) with
    | none =>
      rw [turn_none e] at h
      exact upTo_held hk m b (by omega) h
    | some a =>
      have ha := hk _ _ e
      have new : Held c (k + 1) lo ((lo + m + 1 - lo) * flowAt c (lo + m + 1) + a.1, (lo + m + 1) :: a.2) :=
        ⟨⟨by omega, by omega, ha.asc⟩, by rw [List.length_cons, ha.len], by rw [ha.val]; rfl⟩
      cases u : upTo c k lo m with
      | none =>
        rw [u, turn_first e] at h
        cases h
        exact new
      | some b' =>
        rw [u, turn_more e] at h
        split at h
        · cases h
          exact new
        · cases h
          exact upTo_held hk m _ (by omega) u
theorem best_held {c : List Nat} : ∀ {k lo : Nat} {b : Nat × List Nat}, lo ≤ c.length → bestFrom c k lo = some b → Held c k lo b
  | 0, lo, b, _, h => by
    rw [best_zero] at h
    cases h
    exact ⟨trivial, rfl, rfl⟩
  | k + 1, lo, b, hlo, h => by
    rw [best_succ] at h
    refine upTo_held (fun g b e => ?_) _ b (by omega) h
    by_cases hg : g ≤ c.length
    · exact best_held hg e
    · cases k with
      | zero =>
        rw [best_zero] at e
        cases e
        exact ⟨trivial, rfl, rfl⟩
      | succ k =>
        rw [best_none (by omega) (by omega)] at e
        cases e
/-- and the search keeps the most -/
theorem upTo_max {c : List Nat} {k lo : Nat} : ∀ (m i : Nat) (a : Nat × List Nat), i < m → bestFrom c k (lo + i + 1) = some a → ∃ b, upTo c k lo m = some b ∧ (i + 1) * flowAt c (lo + i + 1) + a.1 ≤ b.1
  | 0, _, _, h, _ => by omega
  | m + 1, i, a, hi, ha => by
    rw [upTo_succ]
    rcases Nat.lt_succ_iff_lt_or_eq.mp hi with hi | rfl
    · obtain ⟨b, hb, le⟩ := upTo_max m i a hi ha
      rw [hb]
      cases e : bestFrom c k (lo + m + 1) with
      | none => exact ⟨b, turn_none e, le⟩
      | some a' =>
        rw [turn_more e]
        split
        · exact ⟨_, rfl, by dsimp only; omega⟩
        · exact ⟨_, rfl, le⟩
    · have e1 : lo + i + 1 - lo = i + 1 := by omega
      cases u : upTo c k lo i with
      | none => exact ⟨_, turn_first ha, by rw [e1]; exact Nat.le_refl _⟩
      | some b' =>
        rw [turn_more ha, e1]
        split
        · exact ⟨_, rfl, Nat.le_refl _⟩
        · exact ⟨_, rfl, by omega⟩
theorem best_max {c : List Nat} {k lo g : Nat} {a b : Nat × List Nat} (h1 : lo < g) (h2 : g ≤ c.length) (ha : bestFrom c k g = some a) (hb : bestFrom c (k + 1) lo = some b) :
    (g - lo) * flowAt c g + a.1 ≤ b.1 := by
  rw [best_succ] at hb
  obtain ⟨b', e, le⟩ := upTo_max (c := c) (k := k) (lo := lo) (c.length - lo) (g - lo - 1) a (by omega) (by rwa [show lo + (g - lo - 1) + 1 = g by omega])
  rw [hb] at e
  cases e
  rwa [show g - lo - 1 + 1 = g - lo by omega, show lo + (g - lo - 1) + 1 = g by omega] at le
/-- one stage more, where there is room, is no less power -/
theorem best_grows {c : List Nat} {a : Nat} (hc : NI a c) : ∀ {k lo : Nat} {p q : Nat × List Nat}, k + 1 + lo ≤ c.length → bestFrom c k lo = some p → bestFrom c (k + 1) lo = some q → p.1 ≤ q.1
  | 0, lo, p, q, _, hp, _ => by
    rw [best_zero] at hp
    cases hp
    exact Nat.zero_le _
  | k + 1, lo, p, q, hr, hp, hq => by
    have H := best_held (by omega) hp
    -- p is g :: s
    obtain ⟨pv, ps⟩ := p
    cases ps with
    | nil =>
      have := H.len
      cases this
    | cons g s =>
      obtain ⟨⟨a1, a2, a3⟩, hl, hv⟩ := H
      simp only [List.length_cons, Nat.add_right_cancel_iff] at hl
      have hg := asc_len a2 a3
      dsimp only at hv ⊢
      -- the stages above g are no better than the best there
      obtain ⟨t, ht⟩ := best_some (c := c) (k := k) (lo := g) (by omega)
      have hs : pv ≤ (g - lo) * flowAt c g + t.1 := by
        obtain ⟨x, hx⟩ : ∃ x, x = (pv, g :: s) := ⟨_, rfl⟩
        rw [best_succ] at hp
        exact le_of hp ht
      by_cases e : k + 1 + g ≤ c.length
      · obtain ⟨u, hu⟩ := best_some (c := c) (k := k + 1) (lo := g) e
        have := best_grows hc e ht hu
        have := best_max a1 a2 hu hq
        omega
      · -- no room above g: one below
        have h1 : lo < g - 1 := by omega
        obtain ⟨u, hu⟩ := best_some (c := c) (k := k + 1) (lo := g - 1) (by omega)
        have m1 := best_max h1 (by omega) hu hq
        have m2 := best_max (show g - 1 < g by omega) a2 ht hu
        have f := flow_anti hc (show 0 < g - 1 by omega) (show g - 1 ≤ g by omega)
        have f2 : (g - 1 - lo) * flowAt c g ≤ (g - 1 - lo) * flowAt c (g - 1) := Nat.mul_le_mul_left _ f
        have e3 : (g - lo) * flowAt c g = (g - 1 - lo) * flowAt c g + (g - (g - 1)) * flowAt c g := by
          rw [← Nat.add_mul]
          congr 1
          omega
        omega
where
  le_of {c : List Nat} {k lo m pv g : Nat} {s : List Nat} {t : Nat × List Nat} (h : upTo c k lo m = some (pv, g :: s)) (ht : bestFrom c k g = some t) : pv ≤ (g - lo) * flowAt c g + t.1 := by
    have key : ∀ m pv g s, upTo c k lo m = some (pv, g :: s) → ∃ t, bestFrom c k g = some t ∧ pv = (g - lo) * flowAt c g + t.1 := by
      intro m
      induction m with
      | zero =>
        intro pv g s h
        cases h
      | succ m ih =>
        intro pv g s h
        rw [upTo_succ] at h
        cases e : bestFrom c k (lo + m + 1) with
        | none =>
          rw [turn_none e] at h
          exact ih _ _ _ h
        | some a =>
          cases u : upTo c k lo m with
          | none =>
            rw [u, turn_first e] at h
            cases h
            exact ⟨a, e, rfl⟩
          | some b' =>
            rw [u, turn_more e] at h
            split at h
            · cases h
              exact ⟨a, e, rfl⟩
            · cases h
              exact ih _ _ _ u
    obtain ⟨t', h1, h2⟩ := key m pv g s h
    rw [ht] at h1
    cases h1
    omega
/-- the best stages of a curve -/
theorem bestStages_some {c : List Nat} {k : Nat} (h : k ≤ c.length) : bestFrom c k 0 = some (bestStages c k) := by
  obtain ⟨b, hb⟩ := best_some (c := c) (k := k) (lo := 0) (by omega)
  unfold bestStages
  rw [hb]
  rfl
theorem bestStages_held {c : List Nat} {k : Nat} (h : k ≤ c.length) : Held c k 0 (bestStages c k) := best_held (Nat.zero_le _) (bestStages_some h)
theorem bestStages_grows {c : List Nat} {k : Nat} (hc : isCurve c = true) (h : k + 1 ≤ c.length) : (bestStages c k).1 ≤ (bestStages c (k + 1)).1 :=
  best_grows (isCurve_iff.mp hc).2.2 (by omega) (bestStages_some (by omega)) (bestStages_some h)
theorem bestStages_le {c : List Nat} {k : Nat} (hc : isCurve c = true) (h : k ≤ c.length) : (bestStages c k).1 ≤ Kqk2.sum c := by
  have H := bestStages_held h
  rw [H.val, ← power_eq]
  exact power_le_sum hc (asc_areStages.mpr H.asc)
end KM
namespace KM
open Kqk2
/-- a list of natural numbers as whole numbers -/
abbrev iz (l : List Nat) : List Int := l.map fun n : Nat => (n : Int)
/-- how many whole numbers the calls without a list have -/
def cnt : Nat → Nat
  | 1 => 2 | 2 => 1 | 3 => 1 | 4 => 0 | 5 => 1 | 7 => 0 | 9 => 1 | 10 => 1 | 11 => 1 | 12 => 1 | 13 => 1 | 14 => 2 | 15 => 0 | 16 => 1 | 17 => 1 | 18 => 0 | 19 => 0
  | _ => 0
/-- the request of a call's number and its numbers -/
def reqOf : Nat → List Nat → Request
  | 0, l => .setCurve l
  | 1, [a, b] => .setFlow a b
  | 2, [a] => .truncate a
  | 3, [a] => .reduceFlows a
  | 4, [] => .totalFlow
  | 5, [a] => .flowAt a
  | 6, l => .setStages l
  | 7, [] => .power
  | 8, l => .powerOf l
  | 9, [a] => .bestStages a
  | 10, [a] => .applyBestStages a
  | 11, [a] => .marginalPower a
  | 12, [a] => .countStageSets a
  | 13, [a] => .bestStageCount a
  | 14, [a, b] => .reachesShare a b
  | 15, [] => .improveStage
  | 16, [a] => .addStage a
  | 17, [a] => .removeStage a
  | 18, [] => .unusedPower
  | _, _ => .summary
/-- one call: the state behind it and its answer -/
def opStep (s : Option Plant) (p : Nat) (xs : List Nat) : Option Plant × List Int := ((Kqk2.step s (reqOf p xs)).1, Kqk2Neutral.fields (Kqk2.step s (reqOf p xs)).2)
def runs : Option Plant → List (Nat × List Nat) → List (List Int)
  | _, [] => []
  | s, (p, xs) :: cs => (opStep s p xs).2 :: runs (opStep s p xs).1 cs
def lists : List Nat := [0, 6, 8]
inductive Parsed : List Int → List (Nat × List Nat) → Prop
  | nil : Parsed [] []
  | num (p : Nat) (xs : List Nat) (t : List Int) (cs : List (Nat × List Nat)) : p < 20 → p ∉ lists → xs.length = cnt p → (∀ x ∈ xs, x ≤ 4294967295) → Parsed t cs →
      Parsed ((p : Int) :: (iz xs ++ t)) ((p, xs) :: cs)
  | lst (p : Nat) (xs : List Nat) (t : List Int) (cs : List (Nat × List Nat)) : p ∈ lists → xs.length ≤ 60 → (∀ x ∈ xs, x ≤ 4294967295) → Parsed t cs →
      Parsed ((p : Int) :: (xs.length : Int) :: (iz xs ++ t)) ((p, xs) :: cs)
theorem nat_of {l : List Int} (h : ∀ x ∈ l, 0 ≤ x ∧ x ≤ 4294967295) : ∃ xs : List Nat, l = iz xs ∧ (∀ x ∈ xs, x ≤ 4294967295) ∧ xs = l.map Kqk2Neutral.nat := by
  refine ⟨l.map Kqk2Neutral.nat, ?_, ?_, rfl⟩
  · unfold iz Kqk2Neutral.nat
    rw [List.map_map]
    refine (List.map_id _).symm.trans (List.map_congr_left fun x hx => ?_)
    have := h x hx
    simp only [id_eq, Function.comp]
    omega
  · intro x hx
    obtain ⟨y, hy, rfl⟩ := List.mem_map.mp hx
    have := h y hy
    unfold Kqk2Neutral.nat
    omega
/-- a state's call, as the specification plays it -/
theorem each_bound2 {l h x : Int} {b : List (Int × Int)} {xs : List Int} : PyInside.each ((l, h) :: b) (x :: xs) = true → (l ≤ x ∧ x ≤ h) ∧ PyInside.each b xs = true := by
  intro hq
  have hq : (decide (l ≤ x) && decide (x ≤ h) && PyInside.each b xs) = true := hq
  rwa [Bool.and_eq_true, Bool.and_eq_true, decide_eq_true_eq, decide_eq_true_eq] at hq
/-- one call without a list -/
theorem step_num {p : Nat} {xs : List Nat} (hp : p < 20) (hl : p ∉ lists) (hx : xs.length = cnt p) (s : Option Plant) :
    Kqk2Neutral.step s (PyKqk2.whole [(p : Int) :: iz xs]) = opStep s p xs := by
  unfold lists at hl
  simp only [List.mem_cons, List.not_mem_nil, not_or, or_false] at hl
  have : p = 1 ∨ p = 2 ∨ p = 3 ∨ p = 4 ∨ p = 5 ∨ p = 7 ∨ p = 9 ∨ p = 10 ∨ p = 11 ∨ p = 12 ∨ p = 13 ∨ p = 14 ∨ p = 15 ∨ p = 16 ∨ p = 17 ∨ p = 18 ∨ p = 19 := by omega
  rcases this with rfl | rfl | rfl | rfl | rfl | rfl | rfl | rfl | rfl | rfl | rfl | rfl | rfl | rfl | rfl | rfl | rfl <;>
    (first
      | (match xs, hx with | [], _ => rfl)
      | (match xs, hx with | [a], _ => rfl)
      | (match xs, hx with | [a, b], _ => rfl))
theorem map_nat_iz (xs : List Nat) : (iz xs).map Kqk2Neutral.nat = xs := by
  unfold iz Kqk2Neutral.nat
  rw [List.map_map]
  refine (List.map_congr_left fun x _ => ?_).trans (List.map_id _)
  simp
theorem step_lst {p : Nat} {xs : List Nat} (hl : p ∈ lists) (s : Option Plant) :
    Kqk2Neutral.step s (PyKqk2.whole [[(p : Int)], iz xs]) = opStep s p xs := by
  unfold lists at hl
  simp only [List.mem_cons, List.not_mem_nil, or_false] at hl
  have e := map_nat_iz xs
  rcases hl with rfl | rfl | rfl
  · show ((Kqk2.step s (.setCurve ((iz xs).map Kqk2Neutral.nat))).1, _) = _
    rw [show Kqk2Neutral.fields (Kqk2.step s (.setCurve ((iz xs).map Kqk2Neutral.nat))).2 = Kqk2Neutral.fields (Kqk2.step s (.setCurve xs)).2 by rw [e], e]
    rfl
  · show ((Kqk2.step s (.setStages ((iz xs).map Kqk2Neutral.nat))).1, _) = _
    rw [show Kqk2Neutral.fields (Kqk2.step s (.setStages ((iz xs).map Kqk2Neutral.nat))).2 = Kqk2Neutral.fields (Kqk2.step s (.setStages xs)).2 by rw [e], e]
    rfl
  · show ((Kqk2.step s (.powerOf ((iz xs).map Kqk2Neutral.nat))).1, _) = _
    rw [show Kqk2Neutral.fields (Kqk2.step s (.powerOf ((iz xs).map Kqk2Neutral.nat))).2 = Kqk2Neutral.fields (Kqk2.step s (.powerOf xs)).2 by rw [e], e]
    rfl
theorem shape_cases {p : Int} {a : Nat × Nat} (h : PyKqk2.shape p = some a) :
    ∃ q : Nat, p = q ∧ q < 20 ∧ ((q ∉ lists ∧ a = (cnt q, 0)) ∨ (q ∈ lists ∧ a = (0, 1))) := by
  have hq : 0 ≤ p ∧ p < 20 := by
    unfold PyKqk2.shape at h
    refine ⟨Int.not_lt.mp fun hc => ?_, Int.not_le.mp fun hc => ?_⟩
    · repeat rw [if_neg (by omega)] at h
      cases h
    · repeat rw [if_neg (by omega)] at h
      cases h
  obtain ⟨q, rfl⟩ := Int.eq_ofNat_of_zero_le hq.1
  refine ⟨q, rfl, by omega, ?_⟩
  have hq2 : q < 20 := by omega
  have : q = 0 ∨ q = 1 ∨ q = 2 ∨ q = 3 ∨ q = 4 ∨ q = 5 ∨ q = 6 ∨ q = 7 ∨ q = 8 ∨ q = 9 ∨ q = 10 ∨ q = 11 ∨ q = 12 ∨ q = 13 ∨ q = 14 ∨ q = 15 ∨ q = 16 ∨ q = 17 ∨ q = 18 ∨ q = 19 := by omega
  rcases this with rfl | rfl | rfl | rfl | rfl | rfl | rfl | rfl | rfl | rfl | rfl | rfl | rfl | rfl | rfl | rfl | rfl | rfl | rfl | rfl <;>
    (cases h; first | exact .inl ⟨by decide, rfl⟩ | exact .inr ⟨by decide, rfl⟩)
theorem bound_num {q : Nat} (h : q < 20) (hl : q ∉ lists) {xs : List Int} (hx : xs.length = cnt q) (hb : PyInside.each (PyKqk2.bound (q : Int)).1 xs = true) : ∀ x ∈ xs, 0 ≤ x ∧ x ≤ 4294967295 := by
  unfold lists at hl
  simp only [List.mem_cons, List.not_mem_nil, not_or, or_false] at hl
  have : q = 1 ∨ q = 2 ∨ q = 3 ∨ q = 4 ∨ q = 5 ∨ q = 7 ∨ q = 9 ∨ q = 10 ∨ q = 11 ∨ q = 12 ∨ q = 13 ∨ q = 14 ∨ q = 15 ∨ q = 16 ∨ q = 17 ∨ q = 18 ∨ q = 19 := by omega
  have zero : ∀ {xs : List Int}, xs.length = 0 → ∀ x ∈ xs, 0 ≤ x ∧ x ≤ 4294967295 := by
    intro xs e x hx
    match xs, e with
    | [], _ => cases hx
  have one : ∀ {xs : List Int}, xs.length = 1 → PyInside.each [(0, 4294967295)] xs = true → ∀ x ∈ xs, 0 ≤ x ∧ x ≤ 4294967295 := by
    intro xs e hb x hx
    match xs, e with
    | [a], _ =>
      cases List.mem_singleton.mp hx
      exact (each_bound2 hb).1
  have two : ∀ {xs : List Int}, xs.length = 2 → PyInside.each [(0, 4294967295), (0, 4294967295)] xs = true → ∀ x ∈ xs, 0 ≤ x ∧ x ≤ 4294967295 := by
    intro xs e hb x hx
    match xs, e with
    | [a, b], _ =>
      have h1 := each_bound2 hb
      have h2 := each_bound2 h1.2
      rcases List.mem_cons.mp hx with rfl | hx
      · exact h1.1
      · cases List.mem_singleton.mp hx
        exact h2.1
  rcases this with rfl | rfl | rfl | rfl | rfl | rfl | rfl | rfl | rfl | rfl | rfl | rfl | rfl | rfl | rfl | rfl | rfl <;>
    first | exact zero hx | exact one hx hb | exact two hx hb
theorem bound_lst {q : Nat} (hl : q ∈ lists) {x : List Int} (hb : PyInside.lists (PyKqk2.bound (q : Int)).2 [x] = true) : x.length ≤ 60 ∧ ∀ y ∈ x, 0 ≤ y ∧ y ≤ 4294967295 := by
  unfold lists at hl
  simp only [List.mem_cons, List.not_mem_nil, or_false] at hl
  have key : PyInside.lists [(0, 4294967295, 0, 60)] [x] = true := by
    rcases hl with rfl | rfl | rfl <;> exact hb
  unfold PyInside.lists at key
  rw [Bool.and_eq_true, Bool.and_eq_true, Bool.and_eq_true, decide_eq_true_eq, decide_eq_true_eq, List.all_eq_true] at key
  refine ⟨key.1.1.2, fun y hy => ?_⟩
  have := key.1.2 y hy
  unfold PyInside.within at this
  rwa [Bool.and_eq_true, decide_eq_true_eq, decide_eq_true_eq] at this
theorem parsed_of : ∀ (f : Nat) (l : List Int) (raw : List (List (List Int))), PyFlat.calls PyKqk2.shape f l = some raw → PyInside.calls PyKqk2.bound raw = true →
    ∃ cs, Parsed l cs ∧ cs.length = raw.length ∧ ∀ s, PyFlat.played Kqk2Neutral.step s (raw.map PyKqk2.whole) = runs s cs
  | _, [], raw, h, _ => by
    unfold PyFlat.calls at h
    cases h
    exact ⟨[], .nil, rfl, fun _ => rfl⟩
  | 0, _ :: _, raw, h, _ => by
    unfold PyFlat.calls at h
    cases h
  | f + 1, p :: r, raw, h, hb => by
    unfold PyFlat.calls at h
    cases hc : PyFlat.call PyKqk2.shape (p :: r) with
    | none =>
      rw [hc] at h
      cases h
    | some ct =>
      obtain ⟨c, t⟩ := ct
      rw [hc] at h
      dsimp only at h
      cases hr : PyFlat.calls PyKqk2.shape f t with
      | none =>
        rw [hr] at h
        cases h
      | some cs =>
        rw [hr] at h
        cases h
        unfold PyInside.calls at hb
        rw [List.all_cons, Bool.and_eq_true] at hb
        obtain ⟨ds, hd, hlen, hplay⟩ := parsed_of f t cs hr hb.2
        unfold PyFlat.call at hc
        dsimp only at hc
        cases hs : PyKqk2.shape p with
        | none =>
          rw [hs] at hc
          cases hc
        | some nk =>
          rw [hs] at hc
          obtain ⟨q, rfl, hq, hq2⟩ := shape_cases hs
          rcases hq2 with ⟨hl, rfl⟩ | ⟨hl, rfl⟩
          · dsimp only at hc
            by_cases hlt : r.length < cnt q
            · rw [if_pos hlt] at hc
              cases hc
            · rw [if_neg hlt] at hc
              unfold PyFlat.rows at hc
              cases hc
              have hx : (r.take (cnt q)).length = cnt q := by
                rw [List.length_take]
                omega
              have hbc : PyInside.each (PyKqk2.bound (q : Int)).1 (r.take (cnt q)) = true := by
                have := hb.1
                unfold PyInside.call at this
                rw [Bool.and_eq_true] at this
                exact this.1
              obtain ⟨xs, e1, e2, _⟩ := nat_of (bound_num hq hl hx hbc)
              have hxs : xs.length = cnt q := by
                rw [← hx, e1]
                simp
              refine ⟨(q, xs) :: ds, ?_, by simp [hlen], fun s => ?_⟩
              · rw [← List.take_append_drop (cnt q) r, e1]
                exact .num q xs _ ds hq hl hxs e2 hd
              · rw [e1, List.map_cons]
                unfold PyFlat.played runs
                rw [step_num hq hl hxs, hplay]
          · dsimp only at hc
            rw [if_neg (by omega)] at hc
            rw [List.drop_zero, List.take_zero] at hc
            unfold PyFlat.rows PyFlat.rows PyFlat.row at hc
            cases r with
            | nil => cases hc
            | cons n r =>
              dsimp only at hc
              by_cases hn : 0 ≤ n ∧ n.toNat ≤ r.length
              · rw [if_pos hn] at hc
                cases hc
                have hbl : PyInside.lists (PyKqk2.bound (q : Int)).2 [r.take n.toNat] = true := by
                  have := hb.1
                  unfold PyInside.call at this
                  rw [Bool.and_eq_true] at this
                  exact this.2
                obtain ⟨b1, b2⟩ := bound_lst hl hbl
                obtain ⟨xs, e1, e2, _⟩ := nat_of b2
                have hxs : (n : Int) = (xs.length : Int) := by
                  have : (r.take n.toNat).length = xs.length := by
                    rw [e1]
                    simp
                  rw [List.length_take] at this
                  omega
                have hxs2 : xs.length ≤ 60 := by
                  have : (r.take n.toNat).length = xs.length := by
                    rw [e1]
                    simp
                  omega
                refine ⟨(q, xs) :: ds, ?_, by simp [hlen], fun s => ?_⟩
                · have e : r = iz xs ++ r.drop n.toNat := by
                    rw [← e1, List.take_append_drop]
                  rw [hxs]
                  conv => lhs; rw [e]
                  refine .lst q xs _ ds hl hxs2 e2 ?_
                  exact hd
                · rw [e1, List.map_cons]
                  unfold PyFlat.played runs
                  rw [step_lst hl, hplay]
              · rw [if_neg hn] at hc
                cases hc
/-- what is asked is calls, at most 200 of them; and what is due is their answers -/
theorem asked_parsed {l : List Int} (h : PyKqk2.answers_asked l = true) : ∃ cs, Parsed l cs ∧ cs.length ≤ 200 ∧ PyKqk2.answers l = PyFlat.told (runs none cs) := by
  unfold PyKqk2.answers_asked at h
  cases hr : PyFlat.calls PyKqk2.shape l.length l with
  | none =>
    rw [hr] at h
    cases h
  | some raw =>
    rw [hr] at h
    dsimp only at h
    simp only [Bool.and_eq_true] at h
    obtain ⟨cs, h1, h2, h3⟩ := parsed_of _ _ _ hr h.1.1.2
    refine ⟨cs, h1, ?_, ?_⟩
    · have := h.1.1.1.2
      unfold PyFlat.atMost at this
      rw [decide_eq_true_eq] at this
      omega
    · unfold PyKqk2.answers PyKqk2.calls
      rw [hr]
      dsimp only
      rw [← h3 none]
      rfl
end KM
namespace KM
open Kqk2
/-- the states that calls lead to -/
structure Good (p : Plant) : Prop where
  cur : isCurve p.curve = true
  asc : Asc p.curve.length 0 p.stages
def GoodS : Option Plant → Prop
  | none => True
  | some p => Good p
theorem ni_take : ∀ {l : List Nat} {a : Nat} (n : Nat), NI a l → NI a (l.take n)
  | [], _, n, _ => by simp [NI]
  | _ :: _, _, 0, _ => trivial
  | _ :: _, _, n + 1, h => ⟨h.1, ni_take n h.2⟩
theorem ni_sub : ∀ {l : List Nat} {a : Nat} (k : Nat), NI a l → NI a (l.map fun x => x - k)
  | [], _, _, _ => trivial
  | x :: r, a, k, h => ⟨Nat.le_trans (Nat.sub_le _ _) h.1, by
      have := ni_sub k h.2
      revert this
      cases r with
      | nil => exact fun _ => trivial
      | cons y r => exact fun t => ⟨Nat.sub_le_sub_right h.2.1 k, t.2⟩⟩
theorem curve_take {c : List Nat} {g : Nat} (h : isCurve c = true) (h1 : 1 ≤ g) (h2 : g ≤ c.length) : isCurve (c.take g) = true := by
  obtain ⟨a, b, d⟩ := isCurve_iff.mp h
  refine isCurve_iff.mpr ⟨?_, ?_, ni_take g d⟩ <;> rw [List.length_take] <;> omega
theorem curve_sub {c : List Nat} {k : Nat} (h : isCurve c = true) : isCurve (c.map fun x => x - k) = true := by
  obtain ⟨a, b, d⟩ := isCurve_iff.mp h
  refine isCurve_iff.mpr ⟨?_, ?_, ni_sub k d⟩ <;> rw [List.length_map] <;> omega
theorem asc_filter {n g : Nat} : ∀ {s : List Nat} {lo : Nat}, Asc n lo s → Asc g lo (s.filter fun x => decide (x ≤ g))
  | [], _, _ => trivial
  | x :: r, lo, ⟨a, b, d⟩ => by
    rw [List.filter_cons]
    split
    · rename_i h
      exact ⟨a, of_decide_eq_true h, asc_filter d⟩
    · exact asc_mono (by omega) (asc_filter (g := g) d)
theorem asc_insert {n g : Nat} : ∀ {s : List Nat} {lo : Nat}, lo < g → g ≤ n → g ∉ s → Asc n lo s → Asc n lo (insertAscending g s)
  | [], _, h1, h2, _, _ => ⟨h1, h2, trivial⟩
  | x :: r, lo, h1, h2, h3, ⟨a, b, d⟩ => by
    unfold insertAscending
    have hx : g ≠ x := fun e => h3 (by simp [e])
    split
    · rename_i h
      exact ⟨h1, h2, h, b, d⟩
    · exact ⟨a, b, asc_insert (by omega) h2 (fun e => h3 (List.mem_cons_of_mem _ e)) d⟩
theorem asc_erase {n : Nat} : ∀ {s : List Nat} {lo : Nat} (i : Nat), Asc n lo s → Asc n lo (s.eraseIdx i)
  | [], _, i, _ => by simp [Asc]
  | x :: r, lo, 0, ⟨a, b, d⟩ => asc_mono (by omega) d
  | x :: r, lo, i + 1, ⟨a, b, d⟩ => ⟨a, b, asc_erase i d⟩
/-- what stands in moves is a move -/
theorem mem_moves {p : Plant} {m : Nat × Nat × Nat} (h : m ∈ moves p) : m.2.1 < p.stages.length ∧ areStages p.curve (p.stages.set m.2.1 m.2.2) = true ∧ m.1 = Kqk2.power p.curve (p.stages.set m.2.1 m.2.2) ∧ m.2.2 ≤ p.curve.length ∧ m.2.2 ≠ p.stages.getD m.2.1 0 := by
  unfold moves at h
  obtain ⟨i, hi, h⟩ := List.mem_flatMap.mp h
  obtain ⟨g, hg, h⟩ := List.mem_filterMap.mp h
  dsimp only at h
  split at h
  · rename_i hc
    rw [Bool.and_eq_true] at hc
    cases h
    exact ⟨List.mem_range.mp hi, hc.1, rfl, by have := List.mem_range.mp hg; dsimp only; omega, by simpa using hc.2⟩
  · cases h
def better (b y : Nat × Nat × Nat) : Nat × Nat × Nat := if b.1 < y.1 then y else b
theorem fold_mem : ∀ (l : List (Nat × Nat × Nat)) (m : Nat × Nat × Nat), l.foldl better m ∈ m :: l
  | [], m => by simp
  | x :: r, m => by
    rw [List.foldl_cons]
    have := fold_mem r (better m x)
    have hb : better m x = m ∨ better m x = x := by
      unfold better
      split <;> simp
    rcases List.mem_cons.mp this with e | e
    · rw [e]
      rcases hb with hb | hb <;> rw [hb] <;> simp
    · exact List.mem_cons_of_mem _ (List.mem_cons_of_mem _ e)
theorem good_step {s : Option Plant} (h : GoodS s) (p : Nat) (xs : List Nat) : GoodS (opStep s p xs).1 := by
  unfold opStep
  dsimp only
  cases s with
  | none =>
    cases hq : reqOf p xs <;> (try exact trivial)
    rename_i l
    show GoodS (if isCurve l = false then (none, Result.value (-22)) else (some ⟨l, []⟩, Result.value l.length)).1
    split
    · exact trivial
    · rename_i hc
      exact ⟨by simpa using hc, trivial⟩
  | some p =>
    obtain ⟨hc, ha⟩ := h
    have G : Good p := ⟨hc, ha⟩
    cases hq : reqOf _ xs with
    | setCurve l =>
      show GoodS (if isCurve l = false then (some p, Result.value (-22)) else (some ⟨l, []⟩, Result.value l.length)).1
      split
      · exact G
      · rename_i hc
        exact ⟨by simpa using hc, trivial⟩
    | setFlow g f =>
      unfold Kqk2.step
      dsimp only
      split
      · exact G
      · split
        · exact G
        · rename_i h1 h2
          exact ⟨by simpa using h2, by
            show Asc (p.curve.set (g - 1) f).length 0 p.stages
            rw [List.length_set]
            exact ha⟩
    | truncate g =>
      unfold Kqk2.step
      dsimp only
      split
      · exact G
      · rename_i h1
        exact ⟨curve_take hc (by omega) (by omega), asc_filter ha⟩
    | reduceFlows a =>
      exact ⟨curve_sub hc, by
        show Asc (p.curve.map fun x => x - a).length 0 p.stages
        rw [List.length_map]
        exact ha⟩
    | totalFlow => exact G
    | flowAt g => exact G
    | setStages l =>
      unfold Kqk2.step
      dsimp only
      split
      · exact G
      · rename_i h1
        exact ⟨hc, asc_areStages.mp (by simpa using h1)⟩
    | power => exact G
    | powerOf l => exact G
    | bestStages k => exact G
    | applyBestStages k =>
      unfold Kqk2.step
      dsimp only
      split
      · exact G
      · rename_i h1
        unfold isStageCount at h1
        simp at h1
        exact ⟨hc, (bestStages_held (c := p.curve) (k := k) h1.2).asc⟩
    | marginalPower k => exact G
    | countStageSets k => exact G
    | bestStageCount k => exact G
    | reachesShare k q => exact G
    | improveStage =>
      unfold Kqk2.step
      dsimp only
      split
      · exact G
      · rename_i m rest hm
        split
        · exact G
        · refine ⟨hc, ?_⟩
          have hmem : rest.foldl better m ∈ moves p := by
            rw [hm]
            exact fold_mem rest m
          have := mem_moves hmem
          exact asc_areStages.mp this.2.1
    | addStage g =>
      unfold Kqk2.step
      dsimp only
      split
      · exact G
      · split
        · exact G
        · rename_i h1 h2
          exact ⟨hc, asc_insert (n := p.curve.length) (by omega) (by omega) (by simpa using h2) ha⟩
    | removeStage i =>
      unfold Kqk2.step
      dsimp only
      split
      · exact G
      · exact ⟨hc, asc_erase i ha⟩
    | unusedPower => exact G
    | summary => exact G
end KM
namespace KM
open Kqk2
/-! ## each call, way by way -/
section
variable {s : Option Plant} {p : Plant} {g f k i : Nat} {l : List Nat}
theorem op_of {s s' : Option Plant} {r : Result} {p : Nat} {xs : List Nat} (h : Kqk2.step s (reqOf p xs) = (s', r)) : opStep s p xs = (s', Kqk2Neutral.fields r) := by
  unfold opStep
  rw [h]
theorem op_pair {s s' : Option Plant} {r r' : Result} {p : Nat} {xs : List Nat} (h : Kqk2.step s (reqOf p xs) = (s', r)) (e : r = r') : opStep s p xs = (s', Kqk2Neutral.fields r') := by
  rw [op_of h, e]
theorem step_none {q : Request} (h : ∀ l, q ≠ .setCurve l) : Kqk2.step none q = (none, .value (-11)) := by
  cases q <;> first | rfl | exact absurd rfl (h _)
theorem op_none (p : Nat) (xs : List Nat) (h0 : p ≠ 0) : opStep none p xs = (none, [-11]) := by
  refine op_of (r := .value (-11)) (step_none fun l e => ?_)
  unfold reqOf at e
  split at e <;> first | exact h0 rfl | cases e
theorem op0_bad (h : isCurve l = false) : opStep s 0 l = (s, [-22]) := by
  refine op_of (r := .value (-22)) ?_
  cases s <;> exact if_pos h
theorem op0_ok (h : isCurve l = true) : opStep s 0 l = (some ⟨l, []⟩, [(l.length : Int)]) := by
  refine op_of (r := .value (l.length : Int)) ?_
  cases s <;> exact if_neg (by rw [h]; decide)
theorem op1_no (h : ¬ (1 ≤ g ∧ g ≤ p.curve.length)) : opStep (some p) 1 [g, f] = (some p, [-2]) := op_of (r := .value (-2)) (if_pos (by omega))
theorem op1_bad (h : 1 ≤ g ∧ g ≤ p.curve.length) (h2 : isCurve (p.curve.set (g - 1) f) = false) : opStep (some p) 1 [g, f] = (some p, [-22]) :=
  op_of (r := .value (-22)) ((if_neg (by omega)).trans (if_pos h2))
theorem op1_ok (h : 1 ≤ g ∧ g ≤ p.curve.length) (h2 : isCurve (p.curve.set (g - 1) f) = true) : opStep (some p) 1 [g, f] = (some { p with curve := p.curve.set (g - 1) f }, [(flowAt p.curve g : Int)]) :=
  op_of (r := .value (flowAt p.curve g : Int)) ((if_neg (by omega)).trans (if_neg (by rw [h2]; decide)))
theorem op2_no (h : ¬ (1 ≤ g ∧ g ≤ p.curve.length)) : opStep (some p) 2 [g] = (some p, [-2]) := op_of (r := .value (-2)) (if_pos (by omega))
theorem op2_ok (h : 1 ≤ g ∧ g ≤ p.curve.length) : opStep (some p) 2 [g] = (some ⟨p.curve.take g, p.stages.filter fun x => decide (x ≤ g)⟩, [((p.curve.length - g : Nat) : Int)]) := by
  refine op_of (r := .value ((p.curve.length - g : Nat) : Int)) ((if_neg (by omega)).trans ?_)
  have e : (p.curve.take g).length = g := by
    rw [List.length_take]
    omega
  rw [e]
theorem op3_ok : opStep (some p) 3 [g] = (some { p with curve := p.curve.map fun x => x - g }, [((Kqk2.sum p.curve - Kqk2.sum (p.curve.map fun x => x - g) : Nat) : Int)]) := rfl
theorem op4_ok : opStep (some p) 4 [] = (some p, [((Kqk2.sum p.curve : Nat) : Int)]) := rfl
theorem op5_no (h : ¬ (1 ≤ g ∧ g ≤ p.curve.length)) : opStep (some p) 5 [g] = (some p, [-2]) := op_pair (r' := .value (-2)) rfl (if_pos (by omega))
theorem op5_ok (h : 1 ≤ g ∧ g ≤ p.curve.length) : opStep (some p) 5 [g] = (some p, [(flowAt p.curve g : Int)]) := op_pair (r' := .value (flowAt p.curve g : Int)) rfl (if_neg (by omega))
theorem op6_bad (h : areStages p.curve l = false) : opStep (some p) 6 l = (some p, [-22]) := op_of (r := .value (-22)) (if_pos h)
theorem op6_ok (h : areStages p.curve l = true) : opStep (some p) 6 l = (some { p with stages := l }, [((Kqk2.power p.curve l : Nat) : Int)]) := op_of (r := .value ((Kqk2.power p.curve l : Nat) : Int)) (if_neg (by rw [h]; decide))
theorem op7_ok : opStep (some p) 7 [] = (some p, [((Kqk2.power p.curve p.stages : Nat) : Int)]) := rfl
theorem op8_bad (h : areStages p.curve l = false) : opStep (some p) 8 l = (some p, [-22]) := op_pair (r' := .value (-22)) rfl (if_pos h)
theorem op8_ok (h : areStages p.curve l = true) : opStep (some p) 8 l = (some p, [((Kqk2.power p.curve l : Nat) : Int)]) := op_pair (r' := .value ((Kqk2.power p.curve l : Nat) : Int)) rfl (if_neg (by rw [h]; decide))
theorem count_no (h : ¬ (k ≤ 5 ∧ k ≤ p.curve.length)) : isStageCount p k = false := by
  unfold isStageCount maxStages
  cases e : decide (k ≤ 5) && decide (k ≤ p.curve.length) with
  | false => rfl
  | true =>
    rw [Bool.and_eq_true, decide_eq_true_eq, decide_eq_true_eq] at e
    exact absurd e h
theorem count_ok (h : k ≤ 5 ∧ k ≤ p.curve.length) : ¬ isStageCount p k = false := by
  unfold isStageCount maxStages
  rw [decide_eq_true h.1, decide_eq_true h.2]
  decide
theorem op9_bad (h : ¬ (k ≤ 5 ∧ k ≤ p.curve.length)) : opStep (some p) 9 [k] = (some p, [-22]) := op_pair (r' := .value (-22)) rfl (if_pos (count_no h))
theorem op9_ok (h : k ≤ 5 ∧ k ≤ p.curve.length) : opStep (some p) 9 [k] = (some p, iz ((Kqk2.bestStages p.curve k).1 :: (Kqk2.bestStages p.curve k).2)) :=
  op_pair (r' := .values (Kqk2.bestStages p.curve k).1 (Kqk2.ints (Kqk2.bestStages p.curve k).2)) rfl (if_neg (count_ok h))
theorem op10_bad (h : ¬ (k ≤ 5 ∧ k ≤ p.curve.length)) : opStep (some p) 10 [k] = (some p, [-22]) := op_of (r := .value (-22)) (if_pos (count_no h))
theorem op10_ok (h : k ≤ 5 ∧ k ≤ p.curve.length) : opStep (some p) 10 [k] = (some { p with stages := (Kqk2.bestStages p.curve k).2 }, [((Kqk2.bestStages p.curve k).1 : Int)]) :=
  op_of (r := .value ((Kqk2.bestStages p.curve k).1 : Int)) (if_neg (count_ok h))
theorem op11_bad (h : ¬ (1 ≤ k ∧ k ≤ 5 ∧ k ≤ p.curve.length)) : opStep (some p) 11 [k] = (some p, [-22]) := by
  refine op_pair (r' := .value (-22)) rfl (if_pos ?_)
  by_cases h0 : k < 1
  · exact .inl h0
  · exact .inr (count_no (by omega))
theorem op11_ok (h : 1 ≤ k ∧ k ≤ 5 ∧ k ≤ p.curve.length) : opStep (some p) 11 [k] = (some p, [(((Kqk2.bestStages p.curve k).1 - (Kqk2.bestStages p.curve (k - 1)).1 : Nat) : Int)]) := by
  refine op_pair (r' := .value (((Kqk2.bestStages p.curve k).1 - (Kqk2.bestStages p.curve (k - 1)).1 : Nat) : Int)) rfl (if_neg ?_)
  rintro (h0 | h0)
  · omega
  · exact count_ok h.2 h0
theorem op12_bad (h : ¬ (k ≤ 5 ∧ k ≤ p.curve.length)) : opStep (some p) 12 [k] = (some p, [-22]) := op_pair (r' := .value (-22)) rfl (if_pos (count_no h))
theorem op12_ok (h : k ≤ 5 ∧ k ≤ p.curve.length) : opStep (some p) 12 [k] = (some p, [((stageSets k 0 p.curve.length).length : Int)]) :=
  op_pair (r' := .value ((stageSets k 0 p.curve.length).length : Int)) rfl (if_neg (count_ok h))
theorem op13_bad (h : 8 < p.curve.length) : opStep (some p) 13 [k] = (some p, [-75]) := op_pair (r' := .value (-75)) rfl (if_pos h)
theorem op13_ok (h : ¬ 8 < p.curve.length) : opStep (some p) 13 [k] = (some p, [(Kqk2.bestStageCount p.curve k : Int), ((Kqk2.bestStages p.curve (Kqk2.bestStageCount p.curve k)).1 : Int)]) :=
  op_pair (r' := .values (Kqk2.bestStageCount p.curve k : Int) [((Kqk2.bestStages p.curve (Kqk2.bestStageCount p.curve k)).1 : Int)]) rfl (if_neg h)
theorem op14_bad (h : ¬ (k ≤ 5 ∧ k ≤ p.curve.length ∧ f ≤ 100)) : opStep (some p) 14 [k, f] = (some p, [-22]) := by
  refine op_pair (r' := .value (-22)) rfl (if_pos ?_)
  by_cases h0 : 100 < f
  · exact .inr h0
  · exact .inl (count_no (by omega))
theorem op14_ok (h : k ≤ 5 ∧ k ≤ p.curve.length ∧ f ≤ 100) : opStep (some p) 14 [k, f] = (some p, [if f * Kqk2.sum p.curve ≤ 100 * (Kqk2.bestStages p.curve k).1 then 1 else 0]) := by
  refine op_pair (r' := .value (if f * Kqk2.sum p.curve ≤ 100 * (Kqk2.bestStages p.curve k).1 then 1 else 0)) rfl (if_neg ?_)
  rintro (h0 | h0)
  · exact count_ok ⟨h.1, h.2.1⟩ h0
  · omega
/-- the best of the moves; none if none is there -/
def bestMove (p : Plant) : Option (Nat × Nat × Nat) := match moves p with
  | [] => none
  | m :: rest => some (rest.foldl better m)
theorem step15 (p : Plant) : Kqk2.step (some p) .improveStage = (match bestMove p with
    | none => (some p, .value (-33))
    | some m => if m.1 ≤ Kqk2.power p.curve p.stages then (some p, .value (-33)) else (some { p with stages := p.stages.set m.2.1 m.2.2 }, .values m.1 [(m.2.1 : Int), (m.2.2 : Int)])) := by
  unfold bestMove
  show (match moves p with | [] => _ | m :: rest => _) = _
  cases moves p with
  | nil => rfl
  | cons m rest => rfl
theorem op15_none (h : bestMove p = none) : opStep (some p) 15 [] = (some p, [-33]) := op_of (r := .value (-33)) ((step15 p).trans (by rw [h]))
theorem op15_bad {m : Nat × Nat × Nat} (h : bestMove p = some m) (h2 : m.1 ≤ Kqk2.power p.curve p.stages) : opStep (some p) 15 [] = (some p, [-33]) :=
  op_of (r := .value (-33)) ((step15 p).trans (by rw [h]; exact if_pos h2))
theorem op15_ok {m : Nat × Nat × Nat} (h : bestMove p = some m) (h2 : Kqk2.power p.curve p.stages < m.1) : opStep (some p) 15 [] = (some { p with stages := p.stages.set m.2.1 m.2.2 }, [(m.1 : Int), (m.2.1 : Int), (m.2.2 : Int)]) :=
  op_of (r := .values m.1 [(m.2.1 : Int), (m.2.2 : Int)]) ((step15 p).trans (by rw [h]; exact if_neg (by omega)))
theorem op16_no (h : ¬ (1 ≤ g ∧ g ≤ p.curve.length)) : opStep (some p) 16 [g] = (some p, [-2]) := op_of (r := .value (-2)) (if_pos (by omega))
theorem op16_bad (h : 1 ≤ g ∧ g ≤ p.curve.length) (h2 : g ∈ p.stages) : opStep (some p) 16 [g] = (some p, [-17]) := op_of (r := .value (-17)) ((if_neg (by omega)).trans (if_pos (by simpa using h2)))
theorem op16_ok (h : 1 ≤ g ∧ g ≤ p.curve.length) (h2 : g ∉ p.stages) : opStep (some p) 16 [g] = (some { p with stages := insertAscending g p.stages }, [((Kqk2.power p.curve (insertAscending g p.stages) : Nat) : Int)]) :=
  op_of (r := .value ((Kqk2.power p.curve (insertAscending g p.stages) : Nat) : Int)) ((if_neg (by omega)).trans (if_neg (by simpa using h2)))
theorem op17_no (h : p.stages.length ≤ i) : opStep (some p) 17 [i] = (some p, [-2]) := op_of (r := .value (-2)) (if_pos h)
theorem op17_ok (h : i < p.stages.length) : opStep (some p) 17 [i] = (some { p with stages := p.stages.eraseIdx i }, [((Kqk2.power p.curve (p.stages.eraseIdx i) : Nat) : Int)]) :=
  op_of (r := .value ((Kqk2.power p.curve (p.stages.eraseIdx i) : Nat) : Int)) (if_neg (by omega))
theorem op18_ok : opStep (some p) 18 [] = (some p, [((Kqk2.sum p.curve - Kqk2.power p.curve p.stages : Nat) : Int)]) := rfl
theorem op19_ok : opStep (some p) 19 [] = (some p, iz (p.curve.length :: (p.curve ++ p.stages.length :: p.stages))) := by
  unfold opStep reqOf Kqk2.step Kqk2Neutral.fields
  dsimp only
  unfold Kqk2.ints iz
  simp
end
/-! ## moves, index by index, then grade by grade -/
/-- the moves of the i-th stage to the grades below m -/
def movesAt (p : Plant) (i m : Nat) : List (Nat × Nat × Nat) := (List.range m).filterMap fun grade =>
  let stages := p.stages.set i grade
  if areStages p.curve stages && grade != p.stages.getD i 0 then some (Kqk2.power p.curve stages, i, grade) else none
theorem moves_eq (p : Plant) : moves p = (List.range p.stages.length).flatMap fun i => movesAt p i (p.curve.length + 1) := rfl
theorem movesAt_succ (p : Plant) (i m : Nat) : movesAt p i (m + 1) = movesAt p i m ++ (if areStages p.curve (p.stages.set i m) && m != p.stages.getD i 0 then [(Kqk2.power p.curve (p.stages.set i m), i, m)] else []) := by
  unfold movesAt
  rw [List.range_succ, List.filterMap_append]
  congr 1
  rw [List.filterMap_cons, List.filterMap_nil]
  dsimp only
  split
  · rename_i h
    split at h
    · cases h
    · rename_i h2
      rw [if_neg h2]
  · rename_i a h
    split at h
    · rename_i h2
      rw [if_pos h2]
      cases h
      rfl
    · cases h
/-- the best of a list of moves -/
def bestOf : List (Nat × Nat × Nat) → Option (Nat × Nat × Nat)
  | [] => none
  | m :: rest => some (rest.foldl better m)
theorem bestOf_snoc (l : List (Nat × Nat × Nat)) (y : Nat × Nat × Nat) : bestOf (l ++ [y]) = some (match bestOf l with | none => y | some b => better b y) := by
  cases l with
  | nil => rfl
  | cons m r =>
    show some ((r ++ [y]).foldl better m) = _
    rw [List.foldl_append]
    rfl
theorem bestMove_eq (p : Plant) : bestMove p = bestOf (moves p) := by
  unfold bestMove bestOf
  rfl
end KM
namespace KM
open Kqk2
/-! ## how many stage sets -/
/-- n over k -/
def ch : Nat → Nat → Nat
  | _, 0 => 1
  | 0, _ + 1 => 0
  | n + 1, k + 1 => ch n k + ch n (k + 1)
theorem ch_zero (n : Nat) : ch n 0 = 1 := by
  cases n <;> rfl
theorem ch_succ (n k : Nat) : ch (n + 1) (k + 1) = ch n k + ch n (k + 1) := rfl
theorem ch_over : ∀ {n k : Nat}, n < k → ch n k = 0
  | 0, _ + 1, _ => rfl
  | n + 1, k + 1, h => by
    rw [ch_succ, ch_over (by omega), ch_over (by omega)]
theorem ch_self : ∀ n : Nat, ch n n = 1
  | 0 => rfl
  | n + 1 => by rw [ch_succ, ch_self n, ch_over (Nat.lt_succ_self n)]
/-- the next one by the one ahead: what a loop of products and quotients goes by -/
theorem ch_step : ∀ (n k : Nat), ch n (k + 1) * (k + 1) = ch n k * (n - k)
  | 0, k => by
    cases k with
    | zero => rfl
    | succ k => rw [ch_over (by omega), ch_over (show 0 < k + 1 by omega)]; simp
  | n + 1, 0 => by
    have ih := ch_step n 0
    rw [ch_succ, ch_zero, ch_zero]
    rw [ch_zero] at ih
    omega
  | n + 1, k + 1 => by
    have h1 := ch_step n (k + 1)
    have h2 := ch_step n k
    rw [ch_succ n (k + 1), ch_succ n k, Nat.add_mul, Nat.add_mul]
    by_cases hk : k < n
    · have e1 : ch n (k + 1) * (k + 1 + 1) = ch n (k + 1) * (k + 1) + ch n (k + 1) := by rw [Nat.mul_add, Nat.mul_one]
      have e2 : n - k = (n - (k + 1)) + 1 := by omega
      have e3 : n + 1 - (k + 1) = n - k := by omega
      rw [e1, h2, e3]
      have e4 : ch n (k + 1 + 1) * (k + 1 + 1) = ch n (k + 1) * (n - (k + 1)) := h1
      rw [e4, e2, Nat.mul_add, Nat.mul_add, Nat.mul_one, Nat.mul_one]
      omega
    · have z1 : ch n (k + 1) = 0 := ch_over (by omega)
      have z2 : ch n (k + 1 + 1) = 0 := ch_over (by omega)
      have z3 : n + 1 - (k + 1) = 0 := by omega
      rw [z1, z2, z3]
      simp
theorem ch_div (n k : Nat) : ch n k * (n - k) / (k + 1) = ch n (k + 1) := by
  rw [← ch_step]
  exact Nat.mul_div_cancel _ (Nat.succ_pos k)
theorem len_flatMap {α β : Type} (f : α → List β) : ∀ l : List α, (l.flatMap f).length = (l.map fun a => (f a).length).sum
  | [] => rfl
  | a :: r => by
    rw [List.flatMap_cons, List.length_append, len_flatMap f r]
    rfl
theorem sets_len : ∀ (k m lo n : Nat), n - lo = m → (stageSets k lo n).length = ch m k
  | 0, m, lo, n, _ => by
    rw [ch_zero]
    rfl
  | k + 1, m, lo, n, h => by
    show ((List.range (n - lo)).flatMap fun i => (stageSets k (lo + i + 1) n).map fun rest => (lo + i + 1) :: rest).length = _
    rw [len_flatMap, h]
    have e : (List.range m).map (fun i => ((stageSets k (lo + i + 1) n).map fun rest => (lo + i + 1) :: rest).length) = (List.range m).map fun i => ch (m - 1 - i) k := by
      refine List.map_congr_left fun i hi => ?_
      rw [List.length_map]
      have := List.mem_range.mp hi
      exact sets_len k _ _ _ (by omega)
    rw [e]
    exact hockey k m
where
  hockey (k : Nat) : ∀ m, ((List.range m).map fun i => ch (m - 1 - i) k).sum = ch m (k + 1)
    | 0 => rfl
    | m + 1 => by
      rw [List.range_succ_eq_map, List.map_cons, List.sum_cons, List.map_map, ch_succ, ← hockey k m]
      congr 2
      refine List.map_congr_left fun i _ => ?_
      show ch (m + 1 - 1 - (i + 1)) k = _
      congr 1
      omega
theorem count_sets (n k : Nat) : (stageSets k 0 n).length = ch n k := sets_len k n 0 n (by omega)
/-! ## the best number of stages -/
/-- the best number among the first m -/
def bcUpTo (c : List Nat) (cost m : Nat) : Nat := (List.range m).foldl (fun (best count : Nat) => if (bestStages c best).1 + cost * count < (bestStages c count).1 + cost * best then count else best) 0
theorem bc_eq (c : List Nat) (cost : Nat) : bestStageCount c cost = bcUpTo c cost (c.length + 1) := rfl
theorem bc_zero (c : List Nat) (cost : Nat) : bcUpTo c cost 0 = 0 := rfl
theorem bc_succ (c : List Nat) (cost m : Nat) : bcUpTo c cost (m + 1) = if (bestStages c (bcUpTo c cost m)).1 + cost * m < (bestStages c m).1 + cost * bcUpTo c cost m then m else bcUpTo c cost m := by
  unfold bcUpTo
  rw [List.range_succ, List.foldl_append]
  rfl
theorem bc_one (c : List Nat) (cost : Nat) : bcUpTo c cost 1 = 0 := by
  rw [bc_succ, bc_zero]
  split <;> rfl
theorem bc_lt (c : List Nat) (cost : Nat) : ∀ m, bcUpTo c cost (m + 1) ≤ m
  | 0 => by rw [bc_one]; exact Nat.le_refl _
  | m + 1 => by
    have := bc_lt c cost m
    rw [bc_succ]
    split <;> omega
/-- the test as a program makes it, over whole numbers -/
theorem bc_test (a b x y cost : Nat) : (a + cost * y < b + cost * x) ↔ ((a : Int) - cost * x < (b : Int) - cost * y) := by
  have h1 : ((cost * x : Nat) : Int) = (cost : Int) * x := Int.natCast_mul ..
  have h2 : ((cost * y : Nat) : Int) = (cost : Int) * y := Int.natCast_mul ..
  omega
/-! ## a stage more, a stage less -/
theorem insert_eq {n g : Nat} : ∀ {s : List Nat} {lo : Nat}, Asc n lo s → g ∉ s → insertAscending g s = s.filter (fun x => decide (x < g)) ++ g :: s.filter fun x => decide (g < x)
  | [], _, _, _ => rfl
  | x :: r, lo, ⟨a, b, d⟩, hg => by
    have hx : g ≠ x := fun e => hg (by simp [e])
    unfold insertAscending
    by_cases h : g < x
    · rw [if_pos h]
      have f1 : (x :: r).filter (fun y => decide (y < g)) = [] := by
        refine List.filter_eq_nil_iff.mpr fun y hy => ?_
        rcases List.mem_cons.mp hy with rfl | hy
        · simpa using Nat.le_of_lt h
        · have := (asc_mem d hy).1
          simp
          omega
      have f2 : (x :: r).filter (fun y => decide (g < y)) = x :: r := by
        refine List.filter_eq_self.mpr fun y hy => ?_
        rcases List.mem_cons.mp hy with rfl | hy
        · simpa using h
        · have := (asc_mem d hy).1
          simp
          omega
      rw [f1, f2]
      rfl
    · rw [if_neg h]
      have ih := insert_eq d (g := g) (fun e => hg (List.mem_cons_of_mem _ e))
      rw [ih, List.filter_cons, if_pos (by simp; omega), List.filter_cons, if_neg (by simp; omega)]
      rfl
theorem insert_len {g : Nat} : ∀ s : List Nat, (insertAscending g s).length = s.length + 1
  | [] => rfl
  | x :: r => by
    unfold insertAscending
    split
    · rfl
    · rw [List.length_cons, insert_len r]
      rfl
theorem insert_perm {g : Nat} : ∀ s : List Nat, (insertAscending g s).Perm (g :: s)
  | [] => List.Perm.refl _
  | x :: r => by
    unfold insertAscending
    split
    · exact List.Perm.refl _
    · exact ((insert_perm r).cons x).trans (List.Perm.swap g x r)
theorem asc_sorted {n : Nat} : ∀ {s : List Nat} {lo : Nat}, Asc n lo s → s.Pairwise (· < ·)
  | [], _, _ => List.Pairwise.nil
  | x :: r, lo, ⟨a, b, d⟩ => List.Pairwise.cons (fun y hy => (asc_mem d hy).1) (asc_sorted d)
/-- a move of the i-th stage: it stays between its neighbours -/
theorem asc_set {n g : Nat} : ∀ {s : List Nat} {lo : Nat} (i : Nat), Asc n lo s → i < s.length →
    (Asc n lo (s.set i g) ↔ (if i = 0 then lo else s.getD (i - 1) 0) < g ∧ (if i + 1 < s.length then g < s.getD (i + 1) 0 else g ≤ n))
  | [], _, i, _, h => by simp at h
  | x :: r, lo, 0, ⟨a, b, d⟩, _ => by
    show lo < g ∧ g ≤ n ∧ Asc n g r ↔ _
    rw [if_pos rfl]
    cases r with
    | nil => simp [Asc]
    | cons y r =>
      obtain ⟨d1, d2, d3⟩ := d
      rw [if_pos (by simp)]
      show lo < g ∧ g ≤ n ∧ (g < y ∧ y ≤ n ∧ Asc n y r) ↔ lo < g ∧ g < y
      constructor
      · rintro ⟨p, q, t, _, _⟩
        exact ⟨p, t⟩
      · rintro ⟨p, q⟩
        exact ⟨p, by omega, q, d2, d3⟩
  | x :: r, lo, i + 1, ⟨a, b, d⟩, h => by
    have ih := asc_set (g := g) i d (by simpa using h)
    show lo < x ∧ x ≤ n ∧ Asc n x (r.set i g) ↔ _
    rw [ih, if_neg (show ¬ i + 1 = 0 by omega)]
    have e1 : (x :: r).getD (i + 1 - 1) 0 = (if i = 0 then x else r.getD (i - 1) 0) := by
      cases i with
      | zero => rfl
      | succ i => rfl
    have e2 : (x :: r).getD (i + 1 + 1) 0 = r.getD (i + 1) 0 := rfl
    rw [e1, e2]
    simp only [List.length_cons, Nat.add_lt_add_iff_right]
    constructor
    · rintro ⟨_, _, p, q⟩
      exact ⟨p, q⟩
    · rintro ⟨p, q⟩
      exact ⟨a, b, p, q⟩
end KM
namespace KM
open Kqk2
/-! ## the search for a better move -/
/-- the best of the moves that lie above a power -/
def upOf (base : Nat) (l : List (Nat × Nat × Nat)) : Option (Nat × Nat × Nat) := match bestOf l with
  | none => none
  | some m => if m.1 ≤ base then none else some m
/-- what a move must lie above to be taken -/
def mostOf (base : Nat) : Option (Nat × Nat × Nat) → Nat
  | none => base
  | some m => m.1
theorem upOf_nil (base : Nat) : upOf base [] = none := rfl
theorem up_none {base : Nat} {l : List (Nat × Nat × Nat)} (h : bestOf l = none) : upOf base l = none := by
  unfold upOf
  rw [h]
theorem up_below {base : Nat} {l : List (Nat × Nat × Nat)} {m : Nat × Nat × Nat} (h : bestOf l = some m) (le : m.1 ≤ base) : upOf base l = none := by
  unfold upOf
  rw [h]
  exact if_pos le
theorem up_above {base : Nat} {l : List (Nat × Nat × Nat)} {m : Nat × Nat × Nat} (h : bestOf l = some m) (lt : base < m.1) : upOf base l = some m := by
  unfold upOf
  rw [h]
  exact if_neg (by omega)
theorem best_first {l : List (Nat × Nat × Nat)} {y : Nat × Nat × Nat} (h : bestOf l = none) : bestOf (l ++ [y]) = some y := by
  rw [bestOf_snoc, h]
theorem best_new {l : List (Nat × Nat × Nat)} {b y : Nat × Nat × Nat} (h : bestOf l = some b) (lt : b.1 < y.1) : bestOf (l ++ [y]) = some y := by
  rw [bestOf_snoc, h]
  exact congrArg some (if_pos lt)
theorem best_old {l : List (Nat × Nat × Nat)} {b y : Nat × Nat × Nat} (h : bestOf l = some b) (le : y.1 ≤ b.1) : bestOf (l ++ [y]) = some b := by
  rw [bestOf_snoc, h]
  exact congrArg some (if_neg (by omega))
theorem up_yes {base : Nat} {l : List (Nat × Nat × Nat)} {y : Nat × Nat × Nat} (h : mostOf base (upOf base l) < y.1) : upOf base (l ++ [y]) = some y := by
  cases e : bestOf l with
  | none =>
    rw [up_none e] at h
    exact up_above (best_first e) h
  | some b =>
    by_cases le : b.1 ≤ base
    · rw [up_below e le] at h
      have h : base < y.1 := h
      exact up_above (best_new e (by omega)) h
    · rw [up_above e (by omega)] at h
      have h : b.1 < y.1 := h
      exact up_above (best_new e h) (by omega)
theorem up_no {base : Nat} {l : List (Nat × Nat × Nat)} {y : Nat × Nat × Nat} (h : ¬ mostOf base (upOf base l) < y.1) : upOf base (l ++ [y]) = upOf base l := by
  cases e : bestOf l with
  | none =>
    rw [up_none e] at h ⊢
    have h : ¬ base < y.1 := h
    exact up_below (best_first e) (by omega)
  | some b =>
    by_cases le : b.1 ≤ base
    · rw [up_below e le] at h ⊢
      have h : ¬ base < y.1 := h
      by_cases q : b.1 < y.1
      · exact up_below (best_new e q) (by omega)
      · exact up_below (best_old e (by omega)) le
    · rw [up_above e (by omega)] at h ⊢
      have h : ¬ b.1 < y.1 := h
      exact up_above (best_old e (by omega)) (by omega)
theorem upOf_more {base : Nat} {l : List (Nat × Nat × Nat)} {m : Nat × Nat × Nat} (h : upOf base l = some m) : base < m.1 ∧ bestOf l = some m := by
  unfold upOf at h
  cases e : bestOf l with
  | none =>
    rw [e] at h
    cases h
  | some b =>
    rw [e] at h
    dsimp only at h
    split at h
    · cases h
    · cases h
      exact ⟨by omega, rfl⟩
theorem op15_not {p : Plant} (h : upOf (Kqk2.power p.curve p.stages) (moves p) = none) : opStep (some p) 15 [] = (some p, [-33]) := by
  unfold upOf at h
  rw [← bestMove_eq] at h
  cases e : bestMove p with
  | none => exact op15_none e
  | some m =>
    rw [e] at h
    dsimp only at h
    split at h
    · rename_i le
      exact op15_bad e le
    · cases h
theorem op15_yes {p : Plant} {m : Nat × Nat × Nat} (h : upOf (Kqk2.power p.curve p.stages) (moves p) = some m) :
    opStep (some p) 15 [] = (some { p with stages := p.stages.set m.2.1 m.2.2 }, [(m.1 : Int), (m.2.1 : Int), (m.2.2 : Int)]) := by
  have := upOf_more h
  exact op15_ok (by rw [bestMove_eq]; exact this.2) this.1
theorem bestOf_mem {l : List (Nat × Nat × Nat)} {m : Nat × Nat × Nat} (h : bestOf l = some m) : m ∈ l := by
  cases l with
  | nil => cases h
  | cons a r =>
    cases h
    exact fold_mem r a
/-! ## the grades that a stage can be moved to -/
/-- the stage below (0 if none), the one above (n + 1 if none) -/
def lowOf (s : List Nat) (i : Nat) : Nat := if i = 0 then 0 else s.getD (i - 1) 0
def highOf (n : Nat) (s : List Nat) (i : Nat) : Nat := if i + 1 < s.length then s.getD (i + 1) 0 else n + 1
/-- the other grades among the first m above lo -/
def freeUp (s : List Nat) (i lo m : Nat) : List Nat := ((List.range m).map fun j => lo + 1 + j).filter fun g => decide (g ≠ s.getD i 0)
theorem freeUp_succ (s : List Nat) (i lo m : Nat) : freeUp s i lo (m + 1) = freeUp s i lo m ++ (if lo + 1 + m ≠ s.getD i 0 then [lo + 1 + m] else []) := by
  unfold freeUp
  rw [List.range_succ, List.map_append, List.filter_append, List.map_cons, List.map_nil, List.filter_cons, List.filter_nil]
  by_cases h : lo + 1 + m ≠ s.getD i 0
  · rw [if_pos h, if_pos (decide_eq_true h)]
  · rw [if_neg h, if_neg (by simpa using h)]
theorem freeUp_len (s : List Nat) (i lo m : Nat) : (freeUp s i lo m).length ≤ m := by
  unfold freeUp
  refine Nat.le_trans (List.length_filter_le _ _) ?_
  rw [List.length_map, List.length_range]
  exact Nat.le_refl _
def freeG (n : Nat) (s : List Nat) (i : Nat) : List Nat := freeUp s i (lowOf s i) (highOf n s i - (lowOf s i + 1))
theorem high_le {n : Nat} {s : List Nat} {i : Nat} (ha : Asc n 0 s) : highOf n s i ≤ n + 1 := by
  unfold highOf
  split
  · rename_i h
    have := (asc_mem ha (show s.getD (i + 1) 0 ∈ s by
      rw [List.getD_eq_getElem?_getD, List.getElem?_eq_getElem h]
      exact List.getElem_mem h)).2
    omega
  · exact Nat.le_refl _
/-- a grade is free for a stage just if it lies between its neighbours -/
theorem set_iff {c s : List Nat} {i g : Nat} (ha : Asc c.length 0 s) (hi : i < s.length) : areStages c (s.set i g) = true ↔ lowOf s i < g ∧ g < highOf c.length s i := by
  rw [asc_areStages, asc_set i ha hi]
  unfold lowOf highOf
  split <;> split <;> omega
theorem movesAt_none (p : Plant) (i : Nat) : ∀ m, (∀ g, g < m → areStages p.curve (p.stages.set i g) = false) → movesAt p i m = []
  | 0, _ => rfl
  | m + 1, h => by
    rw [movesAt_succ, movesAt_none p i m fun g hg => h g (by omega), h m (by omega)]
    rfl
theorem movesAt_free {p : Plant} {i : Nat} (ha : Asc p.curve.length 0 p.stages) (hi : i < p.stages.length) : ∀ m, lowOf p.stages i + 1 + m ≤ highOf p.curve.length p.stages i →
    movesAt p i (lowOf p.stages i + 1 + m) = (freeUp p.stages i (lowOf p.stages i) m).map fun g => (Kqk2.power p.curve (p.stages.set i g), i, g)
  | 0, _ => by
    refine movesAt_none p i _ fun g hg => ?_
    cases e : areStages p.curve (p.stages.set i g) with
    | false => rfl
    | true =>
      have := (set_iff ha hi).mp e
      omega
  | m + 1, h => by
    rw [← Nat.add_assoc, movesAt_succ, movesAt_free ha hi m (by omega), freeUp_succ, List.map_append]
    congr 1
    rw [(set_iff (g := lowOf p.stages i + 1 + m) ha hi).mpr ⟨by omega, by omega⟩, Bool.true_and]
    by_cases e : lowOf p.stages i + 1 + m ≠ p.stages.getD i 0
    · rw [if_pos e, if_pos (by simpa using e)]
      rfl
    · rw [if_neg e, if_neg (by simpa using e)]
      rfl
theorem movesAt_past {p : Plant} {i : Nat} (ha : Asc p.curve.length 0 p.stages) (hi : i < p.stages.length) : ∀ d, movesAt p i (highOf p.curve.length p.stages i + d) = movesAt p i (highOf p.curve.length p.stages i)
  | 0 => rfl
  | d + 1 => by
    rw [← Nat.add_assoc, movesAt_succ, movesAt_past ha hi d]
    have e : areStages p.curve (p.stages.set i (highOf p.curve.length p.stages i + d)) = false := by
      cases e : areStages p.curve (p.stages.set i (highOf p.curve.length p.stages i + d)) with
      | false => rfl
      | true =>
        have := (set_iff ha hi).mp e
        omega
    rw [e]
    simp
theorem low_high {n : Nat} {s : List Nat} {i : Nat} (ha : Asc n 0 s) (hi : i < s.length) : lowOf s i + 1 ≤ highOf n s i := by
  have e : s.set i s[i] = s := List.set_getElem_self hi
  have := (asc_set (g := s[i]) i ha hi).mp (by rw [e]; exact ha)
  obtain ⟨h1, h2⟩ := this
  have e1 : lowOf s i < s[i] := h1
  by_cases q : i + 1 < s.length
  · rw [if_pos q] at h2
    have e2 : highOf n s i = s.getD (i + 1) 0 := if_pos q
    omega
  · rw [if_neg q] at h2
    have e2 : highOf n s i = n + 1 := if_neg q
    omega
theorem movesAt_all {p : Plant} {i : Nat} (ha : Asc p.curve.length 0 p.stages) (hi : i < p.stages.length) :
    movesAt p i (p.curve.length + 1) = (freeG p.curve.length p.stages i).map fun g => (Kqk2.power p.curve (p.stages.set i g), i, g) := by
  have h1 := high_le (i := i) ha
  have h2 := low_high ha hi
  have e1 := movesAt_past ha hi (p.curve.length + 1 - highOf p.curve.length p.stages i)
  rw [show highOf p.curve.length p.stages i + (p.curve.length + 1 - highOf p.curve.length p.stages i) = p.curve.length + 1 by omega] at e1
  have e2 := movesAt_free ha hi (highOf p.curve.length p.stages i - (lowOf p.stages i + 1)) (by omega)
  rw [show lowOf p.stages i + 1 + (highOf p.curve.length p.stages i - (lowOf p.stages i + 1)) = highOf p.curve.length p.stages i by omega] at e2
  rw [e1, e2]
  rfl
/-- what is free is stages -/
theorem free_ok {n : Nat} {s : List Nat} {i g : Nat} (ha : Asc n 0 s) (hi : i < s.length) (h : g ∈ freeG n s i) : Asc n 0 (s.set i g) := by
  unfold freeG freeUp at h
  obtain ⟨h, _⟩ := List.mem_filter.mp h
  obtain ⟨j, hj, rfl⟩ := List.mem_map.mp h
  have hj := List.mem_range.mp hj
  rw [asc_set i ha hi]
  have e1 : lowOf s i = if i = 0 then 0 else s.getD (i - 1) 0 := rfl
  have e2 : highOf n s i = if i + 1 < s.length then s.getD (i + 1) 0 else n + 1 := rfl
  have l := low_high ha hi
  refine ⟨by rw [← e1]; omega, ?_⟩
  by_cases q : i + 1 < s.length
  · rw [if_pos q] at e2 ⊢
    omega
  · rw [if_neg q] at e2 ⊢
    omega
/-- the moves of the first m stages -/
def movesTo (p : Plant) (m : Nat) : List (Nat × Nat × Nat) := (List.range m).flatMap fun i => movesAt p i (p.curve.length + 1)
theorem movesTo_succ (p : Plant) (m : Nat) : movesTo p (m + 1) = movesTo p m ++ movesAt p m (p.curve.length + 1) := by
  unfold movesTo
  rw [List.range_succ, List.flatMap_append, List.flatMap_cons, List.flatMap_nil, List.append_nil]
theorem movesTo_all (p : Plant) : movesTo p p.stages.length = moves p := (moves_eq p).symm
/-! ## sorted -/
theorem perm_sorted : ∀ {l r : List Int}, l.Perm r → l.Pairwise (· ≤ ·) → r.Pairwise (· ≤ ·) → l = r
  | [], r, h, _, _ => by rw [List.Perm.nil_eq h]
  | a :: l, r, h, hl, hr => by
    cases r with
    | nil => exact absurd h.length_eq (by simp)
    | cons b r =>
      have e : a = b := by
        have h1 : a ∈ b :: r := h.mem_iff.mp (by simp)
        have h2 : b ∈ a :: l := h.mem_iff.mpr (by simp)
        have p1 := List.pairwise_cons.mp hl
        have p2 := List.pairwise_cons.mp hr
        rcases List.mem_cons.mp h1 with e | h1
        · exact e
        · rcases List.mem_cons.mp h2 with e | h2
          · exact e.symm
          · have := p1.1 b h2
            have := p2.1 a h1
            omega
      subst e
      rw [perm_sorted (List.Perm.cons_inv h) (List.pairwise_cons.mp hl).2 (List.pairwise_cons.mp hr).2]
theorem sorted_insert {n g : Nat} {s : List Nat} {l : List Int} (ha : Asc n 0 s) (h1 : 0 < g) (h2 : g ≤ n) (h3 : g ∉ s) (hp : l.Perm (iz (s ++ [g]))) (hl : l.Pairwise (· ≤ ·)) : l = iz (insertAscending g s) := by
  have q1 : (iz (insertAscending g s)).Perm (iz (s ++ [g])) := by
    refine List.Perm.map _ ((insert_perm s).trans ?_)
    exact (List.perm_append_comm (l₁ := [g]) (l₂ := s))
  have q2 : (iz (insertAscending g s)).Pairwise (· ≤ ·) := by
    have := asc_sorted (asc_insert h1 h2 h3 ha)
    refine List.pairwise_map.mpr (this.imp fun h => ?_)
    omega
  exact perm_sorted (hp.trans q1.symm) hl q2
theorem ch_le {k : Nat} : ∀ n, ch n k ≤ 2 ^ n
  | 0 => by
    cases k with
    | zero => exact Nat.le_refl _
    | succ k => exact Nat.zero_le _
  | n + 1 => by
    cases k with
    | zero => exact Nat.one_le_two_pow
    | succ k =>
      rw [ch_succ, Nat.pow_succ]
      have := ch_le (k := k) n
      have := ch_le (k := k + 1) n
      omega
theorem best_none0 (c : List Nat) : (Kqk2.bestStages c 0).1 = 0 := by
  unfold Kqk2.bestStages
  rw [best_zero]
  rfl
end KM
namespace FG
open PySem PySem.Spec PyProof.Rows L2
/-! ## defs by name, methods, tables -/
/-- the module's name x stands for a def that keeps sp -/
structure DefN (P : Program) (w : World) (K : PySem.W.Frag) (mg : Str → Option Value) (base : Heap) (k : Nat) (x : Str) (ps : List Str) (sp : Sp) : Prop where
  ex : ∃ (f : Addr) (fd : FuncData), FnOk P w K mg base CX0 k f fd ps sp ∧ mg x = some (.ref f) ∧ PySem.W.keepIn K (.ref f) = true ∧ Binds K fd ps []
/-- the class at C has a method m that keeps sp -/
structure MethN (P : Program) (w : World) (K : PySem.W.Frag) (mg : Str → Option Value) (base : Heap) (k : Nat) (C : Addr) (m : Str) (ps : List Str) (sp : Sp) : Prop where
  ex : ∃ (f : Addr) (fd : FuncData), FnOk P w K mg base CX0 k f fd ps sp ∧ Meth K C m f ∧ Binds K fd ps []
/-- the module's name x stands for the class at C, which is made by an __init__ that keeps sp -/
structure MakeN (P : Program) (w : World) (K : PySem.W.Frag) (mg : Str → Option Value) (base : Heap) (k : Nat) (C : Addr) (x : Str) (ps : List Str) (sp : Sp) : Prop where
  ex : ∃ (f : Addr) (fd : FuncData), FnOk P w K mg base CX0 k f fd ps sp ∧ Mk K C f ∧ mg x = some (.ref C) ∧ Binds K fd ps []
section
variable {X : Cx} {k : Nat} {C : Addr} {ps : List Str} {sp : Sp} {x m : Str} {p pos apos : Pos} {e o : Expr} {es : List Expr} {ta : TE} {t : TA}
theorem pe_fn (G : DefN X.prog X.w X.K X.mg X.base k x ps sp) (hr : Room k X.A) (hg : Gl X x) (ha : PA X (e :: es) t) (hdb : (x == ("__debug__" : Str)) = false := by decide)
    (he : starEach (e :: es) X.env = (false, eval e X.env) :: starEach es X.env := by rfl) (hpl : (backTo pos (starEach es X.env)).any (·.1) = false := by rfl) :
    PE X (.Call (.Name x p) (e :: es) [] pos) (tCall sp [] E0 t) := by
  obtain ⟨f, fd, F, hm, hk, hb⟩ := G.ex
  exact pe_call F hr hg hm hk hb .nil pass0 ha hdb he hpl
theorem pe_fn0 (G : DefN X.prog X.w X.K X.mg X.base k x ps sp) (hr : Room k X.A) (hg : Gl X x) (hdb : (x == ("__debug__" : Str)) = false := by decide) :
    PE X (.Call (.Name x p) [] [] pos) (tCall sp [] E0 tNil) := by
  obtain ⟨f, fd, F, hm, hk, hb⟩ := G.ex
  exact pe_call0 F hr hg hm hk hb .nil pass0 hdb
theorem pe_mt {pl : Sem Bool} (G : MethN X.prog X.w X.K X.mg X.base k C m ps sp) (c : Cls X.K C) (hr : Room k X.A) (he : PE X o ta) (ha : PA X (e :: es) t)
    (hst : starEach (e :: es) X.env = (false, eval e X.env) :: starEach es X.env := by rfl) (hpl : (backTo pos (starEach es X.env)).any (·.1) = false := by rfl)
    (ht : eval (.Call (.Attribute o m apos) (e :: es) [] pos) X.env = (do
      let ov ← eval o X.env
      standAt apos.atName
      let (f, first) ← holding [ov] (getMethod ov m pl)
      callWith pos f first (backTo pos (starEach (e :: es) X.env)) (backToKw pos (keywordEach [] X.env))) := by rfl) :
    PE X (.Call (.Attribute o m apos) (e :: es) [] pos) (tMeth C m sp [] E0 ta t) := by
  obtain ⟨f, fd, F, hm, hb⟩ := G.ex
  exact pe_meth he c hm F hr hb .nil pass0 ha hst hpl ht
theorem pe_mt0 {pl : Sem Bool} (G : MethN X.prog X.w X.K X.mg X.base k C m ps sp) (c : Cls X.K C) (hr : Room k X.A) (he : PE X o ta)
    (ht : eval (.Call (.Attribute o m apos) [] [] pos) X.env = (do
      let ov ← eval o X.env
      standAt apos.atName
      let (f, first) ← holding [ov] (getMethod ov m pl)
      callWith pos f first (backTo pos (starEach [] X.env)) (backToKw pos (keywordEach [] X.env))) := by rfl) :
    PE X (.Call (.Attribute o m apos) [] [] pos) (tMeth C m sp [] E0 ta tNil) := by
  obtain ⟨f, fd, F, hm, hb⟩ := G.ex
  exact pe_meth0 he c hm F hr hb .nil pass0 ht
theorem pe_mk0 (G : MakeN X.prog X.w X.K X.mg X.base k C x ps sp) (hr : Room (k + 1) X.A) (hg : Gl X x) (hdb : (x == ("__debug__" : Str)) = false := by decide) :
    PE X (.Call (.Name x p) [] [] pos) (tMake C sp [] E0 tNil) := by
  obtain ⟨f, fd, F, M, hm, hb⟩ := G.ex
  exact pe_make0 M F hr hg hm hb .nil pass0 hdb
end
/-! ## a dict of the module with whole numbers as keys -/
def intKeys : List DictEntry → Bool
  | [] => true
  | e :: r => (match e.key with | .int k _ => e.hash == hashInt k | _ => false) && intKeys r
theorem intKeys_all : ∀ {l : List DictEntry}, intKeys l = true → ∀ e ∈ l, ∃ k t, e.key = .int k t ∧ e.hash = hashInt k
  | [], _, _, h => by cases h
  | d :: r, hq, e, h => by
    unfold intKeys at hq
    rw [Bool.and_eq_true] at hq
    rcases List.mem_cons.mp h with rfl | h
    · have h1 := hq.1
      split at h1
      · rename_i k t ek
        exact ⟨k, t, ek, by simpa using h1⟩
      · cases h1
    · exact intKeys_all hq.2 e h
def findInt (i : Int) : List DictEntry → Option Value
  | [] => none
  | e :: r => if Value.isInt i e.key = true then some e.val else findInt i r
theorem findInt_is (i : Int) : ∀ l : List DictEntry, findInt i l = (l.find? fun e => Value.isInt i e.key).map (·.val)
  | [] => rfl
  | e :: r => by
    unfold findInt
    rw [List.find?_cons]
    by_cases h : Value.isInt i e.key = true
    · rw [if_pos h, h]
      rfl
    · rw [if_neg h]
      have h' : Value.isInt i e.key = false := by simpa using h
      rw [h', findInt_is i r]
/-- the dict at a of the written part, with whole numbers as its keys, has u at i -/
def KTab (K : PySem.W.Frag) (a : Addr) (i : Int) (u : Value) : Prop :=
  ∃ es n, K.lookup a = some ⟨.type "dict", none, .dict es n, #[]⟩ ∧ intKeys es.toList = true ∧ findInt i es.toList = some u
def rIxTab (K : PySem.W.Frag) : R2 := fun x y H Q => ∃ p i u v, x = .ref p ∧ y = .int i ∧ KTab K p i u ∧ RelV v u ∧ Q v H
section
variable {X : Cx}
theorem ix_tab : IxR X (rIxTab X.K) := by
  intro value slice pins s σ H x y v u Q I rx ry h hs
  obtain ⟨p, i, u0, r, rfl, rfl, ⟨es, n, hl, hk, e⟩, ru, q⟩ := h
  obtain rfl : v = Value.ref p := rx
  obtain ⟨t, rfl⟩ := ry
  have hm : s.heap.MapOf (intKind X.prog X.w) p (fun k => findBy Value.isInt es k) :=
    ⟨_, es, n, I.kIn _ _ hl, ⟨rfl, rfl, rfl⟩, rfl, fun e he => by
      obtain ⟨k, t, e1, e2⟩ := intKeys_all hk e (Array.mem_toList_iff.mpr he)
      exact ⟨k, by rw [e1]; exact intKind_is _ _ k t, e2⟩, fun _ => rfl⟩
  have hf : findBy Value.isInt es i = some u0 := by
    rw [findInt_is] at e
    obtain ⟨l⟩ := es
    unfold findBy
    rw [List.find?_toArray]
    exact e
  exact tail_any hm.typeIs slot_dict_getitem.lookup (wpAny_getItem_of (intKind_is X.prog X.w i t) hm hf ⟨r, H, I.tok _, ru, q⟩) hs
end
end FG
namespace FG
open PySem PySem.Spec PyProof.Rows L2
def top (i : Nat) : Stmt := PySem.Challenge.pw_flashgrades_s01_answers.main.body.getD i (.Pass ⟨0, 0, 0, 0⟩)
theorem if_true_of {c : Bool} {A B : Prop} (hc : c = true) (h : A) : if c = true then A else B := by
  rw [if_pos hc]
  exact h
theorem if_false_of {c : Bool} {A B : Prop} (hc : c = false) (h : B) : if c = true then A else B := by
  rw [hc, if_neg Bool.false_ne_true]
  exact h
theorem lk_here {k : Str} {v : V} {r : List (Str × V)} : List.lookup k ((k, v) :: r) = some v := by
  have e : (k == k) = true := beq_self_eq_true k
  simp only [List.lookup, e]
theorem lk_past {k g : Str} {v : V} {r : List (Str × V)} (h : (k == g) = false) : List.lookup k ((g, v) :: r) = List.lookup k r := by
  simp only [List.lookup, h]
theorem put_here {f : Str} {v x : V} {r : List (Str × V)} : putF f v ((f, x) :: r) = (f, v) :: r := if_pos rfl
theorem put_past {f g : Str} {v x : V} {r : List (Str × V)} (h : ¬ g = f) : putF f v ((g, x) :: r) = (g, x) :: putF f v r := if_neg h
section
variable {X : Cx} {x : Str} {pos : Pos}
/-- a constant of the module: a whole number -/
theorem pe_const {i : Int} (hg : Gl X x) (h : ∃ t, X.mg x = some (.int i t)) (hd : (x == ("__debug__" : Str)) = false := by decide) : PE X (.Name x pos) (tC (.int i)) := by
  obtain ⟨t, h⟩ := h
  exact pe_glob hg h ⟨t, rfl⟩ hd
/-- .. an object -/
theorem pe_globR {a : Addr} (hg : Gl X x) (h : X.mg x = some (.ref a)) (hd : (x == ("__debug__" : Str)) = false := by decide) : PE X (.Name x pos) (tC (.ref a)) := pe_glob hg h rfl hd
end
/-- a list of natural numbers as values -/
def nv (l : List Nat) : List V := l.map fun n : Nat => V.int (n : Int)
theorem nv_len (l : List Nat) : (nv l).length = l.length := List.length_map ..
theorem nv_nil : nv [] = [] := rfl
theorem nv_map (l : List Nat) : nv l = (l.map fun n : Nat => (n : Int)).map V.int := by
  unfold nv
  rw [List.map_map]
  rfl
theorem nv_get {l : List Nat} {i : Nat} {x : V} (h : (nv l)[i]? = some x) : ∃ n, l[i]? = some n ∧ x = V.int (n : Int) := by
  unfold nv at h
  rw [List.getElem?_map] at h
  cases e : l[i]? with
  | none => rw [e] at h; cases h
  | some n => rw [e] at h; exact ⟨n, rfl, (Option.some.inj h).symm⟩
theorem nv_at {l : List Nat} {i n : Nat} (h : l[i]? = some n) : (nv l)[i]? = some (V.int (n : Int)) := by
  unfold nv
  rw [List.getElem?_map, h]
  rfl
theorem nv_inj {l r : List Nat} (h : nv l = nv r) : l = r := by
  unfold nv at h
  refine List.map_inj_right (f := fun n : Nat => V.int (n : Int)) (fun a b e => ?_) |>.mp h
  injection e with e
  omega
theorem atI_of {xs : List V} {i : Int} {j : Nat} {v : V} (e : i = (j : Int)) (h : xs[j]? = some v) : atI xs i = some v := by
  subst e
  have hj : j < xs.length := by
    rcases Nat.lt_or_ge j xs.length with hl | hl
    · exact hl
    · rw [List.getElem?_eq_none hl] at h; cases h
  unfold atI ixN
  rw [if_pos (by omega), if_pos (by omega)]
  show xs[(j : Int).toNat]? = some v
  rw [Int.toNat_natCast]
  exact h
theorem take_succ {α : Type} : ∀ {l : List α} {i : Nat} {x : α}, l[i]? = some x → l.take (i + 1) = l.take i ++ [x]
  | [], i, x, h => by simp at h
  | a :: l, 0, x, h => by
    have e : a = x := Option.some.inj h
    subst e
    rfl
  | a :: l, i + 1, x, h => by
    have ih := take_succ (l := l) (i := i) (x := x) h
    show a :: l.take (i + 1) = a :: l.take i ++ [x]
    rw [ih]
    rfl
/-- the last of a list, or lo -/
def last (lo : Nat) (l : List Nat) : Nat := (l.getLast?).getD lo
theorem last_cons (lo x : Nat) (r : List Nat) : last lo (x :: r) = last x r := by
  cases r with
  | nil => rfl
  | cons y r =>
    unfold last
    rw [List.getLast?_cons_cons, List.getLast?_cons]
    rfl
theorem last_snoc (lo g : Nat) (s : List Nat) : last lo (s ++ [g]) = g := by
  unfold last
  simp
theorem pw_snoc (c : List Nat) : ∀ (s : List Nat) (lo g : Nat), KM.pw c lo (s ++ [g]) = KM.pw c lo s + (g - last lo s) * Kqk2.flowAt c g
  | [], lo, g => by
    show (g - lo) * Kqk2.flowAt c g + 0 = 0 + (g - lo) * _
    omega
  | x :: r, lo, g => by
    show (x - lo) * Kqk2.flowAt c x + KM.pw c x (r ++ [g]) = (x - lo) * Kqk2.flowAt c x + KM.pw c x r + _
    rw [pw_snoc c r x g, last_cons]
    omega
theorem asc_snoc {n : Nat} : ∀ {s : List Nat} {lo g : Nat}, KM.Asc n lo (s ++ [g]) ↔ KM.Asc n lo s ∧ last lo s < g ∧ g ≤ n
  | [], lo, g => by simp [KM.Asc, last]
  | x :: r, lo, g => by
    show lo < x ∧ x ≤ n ∧ KM.Asc n x (r ++ [g]) ↔ (lo < x ∧ x ≤ n ∧ KM.Asc n x r) ∧ _
    rw [asc_snoc, last_cons]
    constructor
    · rintro ⟨a, b, c, d⟩
      exact ⟨⟨a, b, c⟩, d⟩
    · rintro ⟨⟨a, b, c⟩, d⟩
      exact ⟨a, b, c, d⟩
theorem asc_pre {n : Nat} : ∀ {s r : List Nat} {lo : Nat}, KM.Asc n lo (s ++ r) → KM.Asc n lo s
  | [], _, _, _ => trivial
  | _ :: _, _, _, h => ⟨h.1, h.2.1, asc_pre h.2.2⟩
theorem asc_take {n : Nat} {s : List Nat} {lo : Nat} (i : Nat) (h : KM.Asc n lo s) : KM.Asc n lo (s.take i) := by
  rw [← List.take_append_drop i s] at h
  exact asc_pre h
/-- the next one lies above the last, and within -/
theorem asc_next {n : Nat} {s : List Nat} {lo i g : Nat} (h : KM.Asc n lo s) (e : s[i]? = some g) : last lo (s.take i) < g ∧ g ≤ n := by
  have h2 := asc_take (i + 1) h
  rw [take_succ e, asc_snoc] at h2
  exact h2.2
theorem ni_snoc : ∀ {l : List Nat} {a x : Nat}, KM.NI a (l ++ [x]) ↔ KM.NI a l ∧ x ≤ last a l
  | [], a, x => by simp [KM.NI, last]
  | y :: r, a, x => by
    show y ≤ a ∧ KM.NI y (r ++ [x]) ↔ (y ≤ a ∧ KM.NI y r) ∧ _
    rw [ni_snoc, last_cons]
    constructor
    · rintro ⟨h1, h2, h3⟩
      exact ⟨⟨h1, h2⟩, h3⟩
    · rintro ⟨⟨h1, h2⟩, h3⟩
      exact ⟨h1, h2, h3⟩
theorem ni_pre : ∀ {l r : List Nat} {a : Nat}, KM.NI a (l ++ r) → KM.NI a l
  | [], _, _, _ => trivial
  | _ :: _, _, _, h => ⟨h.1, ni_pre h.2⟩
theorem ni_next {l : List Nat} {a i x : Nat} (h : KM.NI a l) (e : l[i]? = some x) : x ≤ last a (l.take i) := by
  rw [← List.take_append_drop (i + 1) l] at h
  have h2 := ni_pre h
  rw [take_succ e, ni_snoc] at h2
  exact h2.2
theorem flow_get {c : List Nat} {g : Nat} (h1 : 0 < g) (h2 : g ≤ c.length) : c[g - 1]? = some (Kqk2.flowAt c g) := by
  rw [KM.flowAt_eq c h1, List.getD_eq_getElem?_getD, List.getElem?_eq_getElem (by omega)]
  rfl
/-- what the top has written -/
structure Txt (K : PySem.W.Frag) (mg : Str → Option Value) (C aLC aNC aOP : Addr) : Prop where
  c_MOST_GRADES : ∃ t, mg "MOST_GRADES" = some (.int 16 t)
  c_MOST_FLOW : ∃ t, mg "MOST_FLOW" = some (.int 1000 t)
  c_NO_CURVE : ∃ t, mg "NO_CURVE" = some (.int (-11) t)
  c_NOT_THERE : ∃ t, mg "NOT_THERE" = some (.int (-2) t)
  c_OUT_OF_RANGE : ∃ t, mg "OUT_OF_RANGE" = some (.int (-22) t)
  c_MOST_STAGES : ∃ t, mg "MOST_STAGES" = some (.int 5 t)
  c_SET_CURVE : ∃ t, mg "SET_CURVE" = some (.int 0 t)
  c_STAGE_THERE : ∃ t, mg "STAGE_THERE" = some (.int (-17) t)
  c_NO_BETTER_MOVE : ∃ t, mg "NO_BETTER_MOVE" = some (.int (-33) t)
  c_TOO_MANY_GRADES : ∃ t, mg "TOO_MANY_GRADES" = some (.int (-75) t)
  c_MOST_PERCENT : ∃ t, mg "MOST_PERCENT" = some (.int 100 t)
  c_MOST_GRADES_TO_COUNT : ∃ t, mg "MOST_GRADES_TO_COUNT" = some (.int 8 t)
  n_len : mg "len" = none
  n_range : mg "range" = none
  n_sum : mg "sum" = none
  n_max : mg "max" = none
  n_list : mg "list" = none
  n_sorted : mg "sorted" = none
  cl_Instance : Cls K C
  na_flows : NoAttr K C "flows"
  na_stages : NoAttr K C "stages"
  c_LIST_CALLS : mg "LIST_CALLS" = some (.ref aLC)
  c_NUMBER_COUNTS : mg "NUMBER_COUNTS" = some (.ref aNC)
  c_OPERATIONS : mg "OPERATIONS" = some (.ref aOP)
end FG
namespace FG
open PySem PySem.Spec PyProof.Rows L2
section
variable {P : Program} {w : World} {K : PySem.W.Frag} {mg : Str → Option Value} {base : Heap} {C aLC aNC aOP : Addr}
/-! ## is_curve -/
abbrev s_is_curve : Stmt := top 3
theorem sc_is_curve : FnScope ["flows", "limit", "flow"] ["flows"] (defScope s_is_curve) := ⟨rfl, rfl, rfl, by decide +kernel, rfl, by decide +kernel, by decide +kernel⟩
def spIsCurve (K : PySem.W.Frag) : Sp := fun vs H Q _ => ∃ (a : Addr) (l : List Nat), vs = [.ref a] ∧ SqL K H a (nv l) ∧ Q (.bl (Kqk2.isCurve l)) H
theorem ok_is_curve {f : Addr} {fd : FuncData} (F : Fun K "is_curve" "is_curve" s_is_curve f fd) (T : Txt K mg C aLC aNC aOP) : FnOk P w K mg base CX0 1 f fd ["flows"] (spIsCurve K) := by
  refine F.ok sc_is_curve (fun vs H Q E h => ?_) (fun cdv A outer s H vs Q E hr h => ⟨_, (pss_cons (ps_if (pt_not (pt_chain op_le op_le pe_int (pe_callB call_len_seq (by rfl) T.n_len (by decide +kernel) (pa_cons (pv 0) pa_nil)) (pe_const (by rfl) T.c_MOST_GRADES))) (pss_one (ps_ret pe_bl)) pss_nil)
 (pss_cons (ps_set (i := 1) sc_is_curve.nd rfl (Or.inl rfl) (pe_const (by rfl) T.c_MOST_FLOW))
 (pss_cons (ps_for PassesOwn.never rfl (pi_list (pv 0)) (pg_name (i := 2) sc_is_curve.nd rfl (Or.inl rfl)) (pss_cons (ps_if (pt_not (pt_chain op_le op_le pe_int (pv 2) (pv 1))) (pss_one (ps_ret pe_bl)) pss_nil)
 (pss_one (ps_set (i := 1) sc_is_curve.nd rfl (Or.inl rfl) (pv 2)))))
 (pss_one (ps_ret pe_bl))))), ?_⟩)
  · obtain ⟨a, l, rfl, _⟩ := h
    rfl
  · obtain ⟨a, l, rfl, hS, k⟩ := h
    -- not 1 <= len(flows) <= 16
    refine ⟨_, rfl, a, _, rfl, .inl hS, _, _, rfl, rfl, _, rfl, ?_⟩
    have hno : ¬ (1 ≤ l.length ∧ l.length ≤ 16) → Kqk2.isCurve l = false := fun e => by
      cases q : Kqk2.isCurve l with
      | false => rfl
      | true => exact absurd ⟨(KM.isCurve_iff.mp q).1, (KM.isCurve_iff.mp q).2.1⟩ e
    rw [nv_len]
    by_cases h1 : (1 : Int) ≤ (l.length : Int)
    · refine if_true_of (decide_eq_true h1) ⟨_, _, rfl, rfl, _, rfl, ?_⟩
      by_cases h2 : (l.length : Int) ≤ 16
      · refine if_false_of (by rw [decide_eq_true h2]; rfl) ?_
        -- the loop
        refine ⟨_, rfl, a, rfl, ⟨_, hS⟩, for_list (K := K) (a := a) (xs := nv l) (fun i σ H' => ∃ v : Option V, σ = [some (.ref a), some (.int (last 1000 (l.take i) : Nat)), v] ∧ H' = H ∧ KM.NI 1000 (l.take i)) ⟨none, rfl, rfl, trivial⟩ (fun i σ H' _ ⟨_, _, e, _⟩ => e ▸ hS) ?_ ?_⟩
        · rintro i x σ H' hi ⟨v, rfl, rfl, ni⟩
          obtain ⟨n, hn, rfl⟩ := nv_get hi
          refine ⟨_, rfl, _, _, rfl, rfl, _, rfl, ?_⟩
          refine if_true_of (decide_eq_true (by omega)) ⟨_, rfl, _, _, rfl, rfl, _, rfl, ?_⟩
          by_cases h3 : (n : Int) ≤ (last 1000 (l.take i) : Nat)
          · refine if_false_of (by rw [decide_eq_true h3]; rfl) ?_
            refine ⟨_, rfl, some (.int n), ?_, rfl, ?_⟩
            · rw [take_succ hn, last_snoc]
              rfl
            · rw [take_succ hn, ni_snoc]
              exact ⟨ni, by omega⟩
          · refine if_true_of (by rw [decide_eq_false h3]; rfl) ?_
            show Q (.bl false) _
            have e : Kqk2.isCurve l = false := by
              cases q : Kqk2.isCurve l with
              | false => rfl
              | true =>
                have := ni_next (KM.isCurve_iff.mp q).2.2 hn
                omega
            rw [← e]
            exact k
        · rintro σ H' ⟨v, rfl, rfl, ni⟩
          rw [nv_len, List.take_length] at ni
          show Q (.bl true) _
          have e : Kqk2.isCurve l = true := KM.isCurve_iff.mpr ⟨by omega, by omega, ni⟩
          rw [← e]
          exact k
      · refine if_true_of (by rw [decide_eq_false h2]; rfl) ?_
        show Q (.bl false) H
        rw [← hno (by omega)]
        exact k
    · refine if_false_of (decide_eq_false h1) ⟨_, rfl, ?_⟩
      refine if_true_of rfl ?_
      show Q (.bl false) H
      rw [← hno (by omega)]
      exact k
/-! ## are_stages -/
abbrev s_are_stages : Stmt := top 4
theorem sc_are_stages : FnScope ["grades", "grade_count", "below", "grade"] ["grades", "grade_count"] (defScope s_are_stages) := ⟨rfl, rfl, rfl, by decide +kernel, rfl, by decide +kernel, by decide +kernel⟩
def spAre (K : PySem.W.Frag) : Sp := fun vs H Q _ => ∃ (a : Addr) (l c : List Nat), vs = [.ref a, .int (c.length : Nat)] ∧ SqL K H a (nv l) ∧ Q (.bl (Kqk2.areStages c l)) H
theorem ok_are_stages {f : Addr} {fd : FuncData} (F : Fun K "are_stages" "are_stages" s_are_stages f fd) (T : Txt K mg C aLC aNC aOP) : FnOk P w K mg base CX0 1 f fd ["grades", "grade_count"] (spAre K) := by
  refine F.ok sc_are_stages (fun vs H Q E h => ?_) (fun cdv A outer s H vs Q E hr h => ⟨_, (pss_cons (ps_set (i := 2) sc_are_stages.nd rfl (Or.inl rfl) pe_int)
 (pss_cons (ps_for PassesOwn.never rfl (pi_list (pv 0)) (pg_name (i := 3) sc_are_stages.nd rfl (Or.inl rfl)) (pss_cons (ps_if (pt_not (pt_chain op_lt op_le (pv 2) (pv 3) (pv 1))) (pss_one (ps_ret pe_bl)) pss_nil)
 (pss_one (ps_set (i := 2) sc_are_stages.nd rfl (Or.inl rfl) (pv 3)))))
 (pss_one (ps_ret pe_bl)))), ?_⟩)
  · obtain ⟨a, l, c, rfl, _⟩ := h
    rfl
  · obtain ⟨a, l, c, rfl, hS, k⟩ := h
    have hno : ¬ KM.Asc c.length 0 l → Kqk2.areStages c l = false := fun e => by
      cases q : Kqk2.areStages c l with
      | false => rfl
      | true => exact absurd (KM.asc_areStages.mp q) e
    refine ⟨_, rfl, a, rfl, ⟨_, hS⟩, for_list (K := K) (a := a) (xs := nv l) (fun i σ H' => ∃ v : Option V, σ = [some (.ref a), some (.int (c.length : Nat)), some (.int (last 0 (l.take i) : Nat)), v] ∧ H' = H ∧ KM.Asc c.length 0 (l.take i)) ⟨none, rfl, rfl, trivial⟩ (fun i σ H' _ ⟨_, _, e, _⟩ => e ▸ hS) ?_ ?_⟩
    · rintro i x σ H' hi ⟨v, rfl, rfl, asc⟩
      obtain ⟨n, hn, rfl⟩ := nv_get hi
      refine ⟨_, rfl, _, rfl, _, _, rfl, rfl, _, rfl, ?_⟩
      by_cases h1 : ((last 0 (l.take i) : Nat) : Int) < (n : Int)
      · refine if_true_of (decide_eq_true h1) ⟨_, rfl, _, _, rfl, rfl, _, rfl, ?_⟩
        by_cases h2 : (n : Int) ≤ (c.length : Nat)
        · refine if_false_of (by rw [decide_eq_true h2]; rfl) ?_
          refine ⟨_, rfl, some (.int n), ?_, rfl, ?_⟩
          · rw [take_succ hn, last_snoc]
            rfl
          · rw [take_succ hn, asc_snoc]
            exact ⟨asc, by omega, by omega⟩
        · refine if_true_of (by rw [decide_eq_false h2]; rfl) ?_
          show Q (.bl false) _
          rw [← hno (fun q => by have := asc_next q hn; omega)]
          exact k
      · refine if_false_of (decide_eq_false h1) ⟨_, rfl, ?_⟩
        refine if_true_of rfl ?_
        show Q (.bl false) _
        rw [← hno (fun q => by have := asc_next q hn; omega)]
        exact k
    · rintro σ H' ⟨v, rfl, rfl, asc⟩
      rw [nv_len, List.take_length] at asc
      show Q (.bl true) _
      rw [← KM.asc_areStages.mpr asc]
      exact k
/-! ## power_over -/
abbrev s_power_over : Stmt := top 5
theorem sc_power_over : FnScope ["flows", "grades", "power", "below", "grade"] ["flows", "grades"] (defScope s_power_over) := ⟨rfl, rfl, rfl, by decide +kernel, rfl, by decide +kernel, by decide +kernel⟩
def spPower (K : PySem.W.Frag) : Sp := fun vs H Q _ => ∃ (a b : Addr) (c s : List Nat), vs = [.ref a, .ref b] ∧ SqL K H a (nv c) ∧ SqL K H b (nv s) ∧ c.length ≤ 16 ∧ KM.Asc c.length 0 s ∧ Q (.int (Kqk2.power c s : Nat)) H
theorem ok_power_over {f : Addr} {fd : FuncData} (F : Fun K "power_over" "power_over" s_power_over f fd) : FnOk P w K mg base CX0 1 f fd ["flows", "grades"] (spPower K) := by
  refine F.ok sc_power_over (fun vs H Q E h => ?_) (fun cdv A outer s H vs Q E hr h => ⟨_, (pss_cons (ps_set (i := 2) sc_power_over.nd rfl (Or.inl rfl) pe_int)
 (pss_cons (ps_set (i := 3) sc_power_over.nd rfl (Or.inl rfl) pe_int)
 (pss_cons (ps_for PassesOwn.never rfl (pi_list (pv 1)) (pg_name (i := 4) sc_power_over.nd rfl (Or.inl rfl)) (pss_cons (ps_aug (i := 2) sc_power_over.nd rfl (Or.inl rfl) (pe_op op_mul (pe_op op_sub (pv 4) (pv 3)) (pe_ix ix_list (pv 0) (pe_op op_sub (pv 4) pe_int) (fun _ _ => rfl))) ip_add)
 (pss_one (ps_set (i := 3) sc_power_over.nd rfl (Or.inl rfl) (pv 4)))))
 (pss_one (ps_ret (pv 2)))))), ?_⟩)
  · obtain ⟨a, b, c, s, rfl, _⟩ := h
    rfl
  · obtain ⟨a, b, c, st, rfl, hc, hs, len, asc, k⟩ := h
    refine ⟨_, rfl, b, rfl, ⟨_, hs⟩, for_list (K := K) (a := b) (xs := nv st) (fun i σ H' => ∃ v : Option V, σ = [some (.ref a), some (.ref b), some (.int (KM.pw c 0 (st.take i) : Nat)), some (.int (last 0 (st.take i) : Nat)), v] ∧ H' = H) ⟨none, rfl, rfl⟩ (fun i σ H' _ ⟨_, _, e⟩ => e ▸ hs) ?_ ?_⟩
    · rintro i x σ H' hi ⟨v, rfl, rfl⟩
      obtain ⟨g, hg, rfl⟩ := nv_get hi
      have nx := asc_next asc hg
      have cg := flow_get (c := c) (g := g) (by omega) nx.2
      refine ⟨_, rfl, _, rfl, _, rfl, _, _, rfl, rfl, _, rfl, _, rfl, _, _, rfl, rfl, a, _, _, _, rfl, rfl, hc, atI_of (j := g - 1) (by omega) (nv_at cg), _, _, rfl, rfl, .inl ⟨by omega, by omega⟩, _, _, rfl, rfl, ?_⟩
      refine ⟨_, rfl, some (.int g), ?_, rfl⟩
      rw [take_succ hg, pw_snoc, last_snoc]
      have e : ((KM.pw c 0 (st.take i) : Nat) : Int) + ((g : Int) - (last 0 (st.take i) : Nat)) * (Kqk2.flowAt c g : Nat) = ((KM.pw c 0 (st.take i) + (g - last 0 (st.take i)) * Kqk2.flowAt c g : Nat) : Int) := by
        rw [Int.natCast_add, Int.natCast_mul, Int.natCast_sub (by omega)]
      rw [← e]
      rfl
    · rintro σ H' ⟨v, rfl, rfl⟩
      rw [nv_len, List.take_length] at *
      refine ⟨_, rfl, ?_⟩
      rw [← KM.power_eq]
      exact k
end
end FG
namespace FG
open PySem PySem.Spec PyProof.Rows L2
theorem same_upd {H H' : Hp} {p : Addr} {o : HO} (h : Same H H') (hp : H' p = none) : Same H (upd H' p o) := fun b u e => by
  rw [upd_ne (ne_of_none (h b u e) hp)]
  exact h b u e
/-- a new object is kept by what is made behind it -/
theorem keep_upd {H' : Hp} {p q : Addr} {o u : HO} (h : H' q = some u) (hp : H' p = none) : upd H' p o q = some u := by
  rw [upd_ne (ne_of_none h hp)]
  exact h
/-- what the search has found, as a list: the power, then the grades -/
def tv : Option (Nat × List Nat) → List V
  | none => []
  | some b => nv (b.1 :: b.2)
theorem cut_tail (p : Nat) (l : List Nat) : cutV (nv (p :: l)) (some 1) none = nv l := by
  unfold cutV HT.sIx
  rw [nv_len]
  show List.take _ (List.drop (min 1 (l.length + 1)) (nv (p :: l))) = _
  rw [show min 1 (l.length + 1) = 1 by omega]
  show List.take (l.length + 1 - 1) (nv l) = _
  rw [Nat.add_sub_cancel, ← nv_len l, List.take_length]
theorem cut_to (l : List Nat) (g : Nat) : cutV (nv l) none (some (g : Int)) = nv (l.take g) := by
  unfold cutV HT.sIx
  dsimp only
  rw [nv_len, if_neg (by omega), List.drop_zero, Int.toNat_natCast, Nat.sub_zero]
  unfold nv
  rw [List.map_take]
  by_cases h : g ≤ l.length
  · rw [Nat.min_eq_left h]
  · rw [Nat.min_eq_right (by omega), List.take_of_length_le (by rw [List.length_map]; exact Nat.le_refl _), List.take_of_length_le (by rw [List.length_map]; omega)]
/-- the tails for k stages: rs[j], new since H0, holds the best k stages above j -/
def Tails (H0 H : Hp) (t : Addr) (c : List Nat) (k : Nat) : Prop := ∃ rs : List Addr, H t = some (.lst (rs.map V.ref)) ∧ rs.length = c.length + 1 - k ∧ ∀ j r, rs[j]? = some r → H0 r = none ∧ H r = some (.lst (tv (Kqk2.bestFrom c k j)))
section
variable {P : Program} {w : World} {K : PySem.W.Frag} {mg : Str → Option Value} {base : Heap} {C aLC aNC aOP : Addr}
/-! ## best_tail -/
abbrev s_best_tail : Stmt := top 7
theorem sc_best_tail : FnScope ["flows", "below", "tails", "best", "grade", "power"] ["flows", "below", "tails"] (defScope s_best_tail) := ⟨rfl, rfl, rfl, by decide +kernel, rfl, by decide +kernel, by decide +kernel⟩
def spTail (K : PySem.W.Frag) : Sp := fun vs H Q _ => ∃ (H0 : Hp) (a t : Addr) (c : List Nat) (k b : Nat), vs = [.ref a, .int (b : Nat), .ref t] ∧ SqL K H a (nv c) ∧ c.length ≤ 16 ∧ (∀ x ∈ c, x ≤ 1000) ∧ Tails H0 H t c k ∧ b + k < c.length ∧
  ∀ H' p, Same H H' → H p = none → H' p = some (.lst (tv (Kqk2.bestFrom c (k + 1) b))) → Q (.ref p) H'
theorem ok_best_tail {f : Addr} {fd : FuncData} (F : Fun K "best_tail" "best_tail" s_best_tail f fd) (T : Txt K mg C aLC aNC aOP) : FnOk P w K mg base CX0 1 f fd ["flows", "below", "tails"] (spTail K) := by
  refine F.ok sc_best_tail (fun vs H Q E h => ?_) (fun cdv A outer s H vs Q E hr h => ⟨_, (pss_cons (ps_set (i := 3) sc_best_tail.nd rfl (Or.inl rfl) (pe_lst pa_nil))
 (pss_cons (ps_for PassesOwn.never rfl (pi_range2 (by rfl) T.n_range (pa_cons (pe_op op_add (pv 1) pe_int) (pa_cons (pe_callB call_len_seq (by rfl) T.n_len (by decide +kernel) (pa_cons (pv 2) pa_nil)) pa_nil))) (pg_name (i := 4) sc_best_tail.nd rfl (Or.inl rfl)) (pss_cons (ps_set (i := 5) sc_best_tail.nd rfl (Or.inl rfl) (pe_op op_add (pe_op op_mul (pe_op op_sub (pv 4) (pv 1)) (pe_ix ix_list (pv 0) (pe_op op_sub (pv 4) pe_int) (fun _ _ => rfl))) (pe_ix ix_list (pe_ix ix_list (pv 2) (pv 4) (fun _ _ => rfl)) pe_int (fun _ _ => rfl))))
 (pss_one (ps_if (PW.pt (pw_or (pt_not (pt_truth (pv 3) (by intro _; rfl))) (pw_or1 (pt_cmpR op_gt (pv 5) (pe_ix ix_list (pv 3) pe_int (fun _ _ => rfl)) (nomark _))))) (pss_one (ps_set (i := 3) sc_best_tail.nd rfl (Or.inl rfl) (pe_op op_cat (pe_lst (pa_cons (pv 5) (pa_cons (pv 4) pa_nil))) (pe_slice sl_list (pe_ix ix_list (pv 2) (pv 4) (fun _ _ => rfl)) (po_some pe_int) po_none)))) pss_nil))))
 (pss_one (ps_ret (pv 3))))), ?_⟩)
  · obtain ⟨H0, a, t, c, k, b, rfl, _⟩ := h
    rfl
  · obtain ⟨H0, a, t, c, k, b, rfl, hc, hlen, hmax, ⟨rs, ht, hrs, hall⟩, hb, q⟩ := h
    -- best = []
    refine ⟨Nat.zero_le _, fun p0 hp0 => ?_⟩
    -- for grade in range(below + 1, len(tails))
    refine ⟨_, rfl, _, _, rfl, rfl, _, rfl, t, _, rfl, .inl (SqL.of (keep_upd ht hp0)), _, _, rfl, ⟨by omega, by omega, by rw [List.length_map]; omega, by rw [List.length_map]; omega⟩, ?_⟩
    refine for_range (lo := (b : Int) + 1) (fun i σ H' => ∃ (p : Addr) (v u : Option V), σ = [some (.ref a), some (.int (b : Nat)), some (.ref t), some (.ref p), v, u] ∧ Same H H' ∧ H p = none ∧ H' p = some (.lst (tv (KM.upTo c k b i))))
      ⟨p0, none, none, rfl, same_upd (Same.refl H) hp0, hp0, upd_same⟩ ?_ ?_
    · rintro i σ H' hi ⟨p, v, u, rfl, sm, np, hp⟩
      rw [List.length_map, hrs] at hi
      have hi2 : b + 1 + i + k ≤ c.length := by omega
      obtain ⟨r, hr⟩ : ∃ r, rs[b + 1 + i]? = some r := ⟨rs[b + 1 + i]'(by omega), List.getElem?_eq_getElem (by omega)⟩
      obtain ⟨ab, hab⟩ := KM.best_some (c := c) (k := k) (lo := b + 1 + i) (by omega)
      have hHr := sm _ _ (hall _ _ hr).2
      rw [hab] at hHr
      have cg := flow_get (c := c) (g := b + 1 + i) (by omega) (by omega)
      have fl : Kqk2.flowAt c (b + 1 + i) ≤ 1000 := hmax _ (List.mem_of_getElem? cg)
      have hrv : (rs.map V.ref)[b + 1 + i]? = some (.ref r) := by rw [List.getElem?_map, hr]; rfl
      have turn : KM.upTo c k b (i + 1) = KM.turn c k b (KM.upTo c k b i) (b + 1 + i) := by
        rw [KM.upTo_succ]
        congr 1
        omega
      -- power = ..
      refine ⟨_, rfl, _, rfl, _, _, rfl, rfl, _, rfl, _, rfl, _, _, rfl, rfl, a, _, _, _, rfl, rfl, sm.seq hc, atI_of (j := b + 1 + i - 1) (by omega) (nv_at cg), _, _, rfl, rfl, .inl ⟨by omega, by omega⟩, ?_⟩
      refine ⟨_, rfl, _, rfl, t, _, _, _, rfl, rfl, SqL.of (sm _ _ ht), atI_of (j := b + 1 + i) (by omega) hrv, r, _, _, _, rfl, rfl, SqL.of hHr, atI_of (j := 0) rfl rfl, _, _, rfl, rfl, ?_⟩
      have ep : ((b : Int) + 1 + (i : Int) - (b : Int)) * (Kqk2.flowAt c (b + 1 + i) : Nat) + (ab.1 : Nat) = (((b + 1 + i - b) * Kqk2.flowAt c (b + 1 + i) + ab.1 : Nat) : Int) := by
        rw [Int.natCast_add, Int.natCast_mul, Int.natCast_sub (by omega)]
        have : ((b : Int) + 1 + (i : Int) - (b : Int)) = (((b + 1 + i : Nat) : Int) - (b : Int)) := by omega
        rw [this]
      -- the taken way: best = [power, grade] + tails[grade][1:]
      have take : ∀ (σ' : L2.St), σ' = [some (.ref a), some (.int (b : Nat)), some (.ref t), some (.ref p), some (.int ((b : Int) + 1 + (i : Int))), some (.int (((b + 1 + i - b) * Kqk2.flowAt c (b + 1 + i) + ab.1 : Nat) : Int))] →
          KM.upTo c k b (i + 1) = some ((b + 1 + i - b) * Kqk2.flowAt c (b + 1 + i) + ab.1, (b + 1 + i) :: ab.2) → ∀ (D : Ends), D.nx = (fun σ H' => ∃ (p : Addr) (v u : Option V), σ = [some (.ref a), some (.int (b : Nat)), some (.ref t), some (.ref p), v, u] ∧ Same H H' ∧ H p = none ∧ H' p = some (.lst (tv (KM.upTo c k b (i + 1))))) →
          (tAsg (tOp rCat (tLst (tCons (tVar 5) (tCons (tVar 4) tNil))) (tSl (rSlL K) (tOp (rIxL K) (tVar 2) (tVar 4)) (tPart (tC (.int 1))) tNoPart)) (gName 3)) D σ' H' := by
        rintro σ' rfl e D hD
        refine ⟨_, rfl, _, rfl, by show 2 ≤ sizeLine; decide, fun p1 hp1 => ?_⟩
        refine ⟨_, rfl, _, rfl, t, _, _, _, rfl, rfl, SqL.of (keep_upd (sm _ _ ht) hp1), atI_of (j := b + 1 + i) (by omega) hrv, _, rfl, r, _, rfl, SqL.of (keep_upd hHr hp1), fun p2 hp2 => ?_⟩
        refine ⟨p1, p2, _, _, rfl, rfl, keep_upd upd_same hp2, upd_same, ?_, fun p3 hp3 => ?_⟩
        · have ab2 := (KM.best_held (by omega) hab).len
          show 2 + (cutV (nv (ab.1 :: ab.2)) (some 1) none).length ≤ sizeLine
          rw [cut_tail, nv_len, ab2]
          have : sizeLine = 16777216 := rfl
          omega
        · show D.nx _ _
          rw [hD]
          refine ⟨p3, _, _, rfl, same_upd (same_upd (same_upd sm hp1) hp2) hp3, (same_upd (same_upd sm hp1) hp2).free hp3, ?_⟩
          rw [upd_same, e]
          show some (HO.lst _) = some (HO.lst _)
          rw [show cutV (tv (some ab)) (some 1) none = nv ab.2 from cut_tail _ _]
          show some (HO.lst ([V.int _, V.int ((b : Int) + 1 + (i : Int))] ++ nv ab.2)) = _
          rw [show ((b : Int) + 1 + (i : Int)) = ((b + 1 + i : Nat) : Int) by omega]
          rfl
      -- if not best or power > best[0]
      refine ⟨_, rfl, _, .inl ⟨_, SqL.of hp, rfl⟩, ?_⟩
      cases hu : KM.upTo c k b i with
      | none =>
        refine if_true_of rfl ?_
        refine if_true_of rfl ?_
        refine take _ ?_ ?_ _ (by rfl)
        · rw [← ep]
          rfl
        · rw [turn, hu, KM.turn_first hab]
      | some bb =>
        rw [hu] at hp
        refine if_false_of rfl ?_
        refine ⟨_, rfl, _, rfl, p, _, _, _, rfl, rfl, SqL.of hp, atI_of (j := 0) rfl rfl, _, _, rfl, rfl, _, rfl, ?_⟩
        by_cases gt : bb.1 < (b + 1 + i - b) * Kqk2.flowAt c (b + 1 + i) + ab.1
        · refine if_true_of (decide_eq_true (by rw [ep]; omega)) ?_
          refine take _ ?_ ?_ _ (by rfl)
          · rw [← ep]
            rfl
          · rw [turn, hu, KM.turn_more hab, if_pos gt]
        · refine if_false_of (decide_eq_false (by rw [ep]; omega)) ?_
          refine ⟨p, _, _, rfl, sm, np, ?_⟩
          rw [turn, hu, KM.turn_more hab, if_neg gt]
          exact hp
    · rintro σ H' ⟨p, v, u, rfl, sm, np, hp⟩
      refine ⟨_, rfl, q H' p sm np ?_⟩
      rw [hp, List.length_map, hrs, KM.best_upTo (by omega)]
      congr 4
      omega
end
end FG
namespace FG
open PySem PySem.Spec PyProof.Rows L2
/-- a list at D of new lists, the j-th of them f j -/
def News (H H' : Hp) (D : Addr) (f : Nat → List V) (i : Nat) : Prop := ∃ rs : List Addr, H' D = some (.lst (rs.map V.ref)) ∧ rs.length = i ∧ Same H H' ∧ ∀ j r, rs[j]? = some r → r ≠ D ∧ H r = none ∧ H' r = some (.lst (f j))
theorem News.nil {H : Hp} {D : Addr} {f : Nat → List V} (h : H D = none) : News H (upd H D (.lst [])) D f 0 :=
  ⟨[], upd_same, rfl, same_upd (Same.refl H) h, fun j r e => by simp at e⟩
theorem News.more {H H1 H2 : Hp} {D p : Addr} {f : Nat → List V} {i : Nat} (hD : H D = none) (n : News H H1 D f i) (s : Same H1 H2) (np : H1 p = none) (hp : H2 p = some (.lst (f i))) (hi : i < 1000) :
    ∃ acc, H2 D = some (.lst acc) ∧ acc.length < sizeLine ∧ News H (upd H2 D (.lst (acc ++ [.ref p]))) D f (i + 1) := by
  obtain ⟨rs, h1, h2, h3, h4⟩ := n
  have hne : p ≠ D := fun e => by
    rw [e, h1] at np
    cases np
  refine ⟨_, s _ _ h1, by rw [List.length_map]; exact small1000 (by omega), rs ++ [p], ?_, ?_, ?_, ?_⟩
  · rw [upd_same, List.map_append]
    rfl
  · rw [List.length_append, h2]
    rfl
  · intro b o e
    rw [upd_ne (ne_of_none e hD)]
    exact s _ _ (h3 _ _ e)
  · intro j r e
    by_cases hj : j < rs.length
    · rw [List.getElem?_append_left hj] at e
      obtain ⟨a, z, b⟩ := h4 j r e
      exact ⟨a, z, by rw [upd_ne a]; exact s _ _ b⟩
    · have hj2 : j = rs.length := by
        have := (List.getElem?_eq_some_iff.mp e).1
        rw [List.length_append] at this
        simp only [List.length_cons, List.length_nil] at this
        omega
      subst hj2
      rw [List.getElem?_append_right (Nat.le_refl _), Nat.sub_self] at e
      cases Option.some.inj e
      exact ⟨hne, h3.free np, by rw [upd_ne hne, h2]; exact hp⟩
section
variable {P : Program} {w : World} {K : PySem.W.Frag} {mg : Str → Option Value} {base : Heap} {C aLC aNC aOP : Addr}
abbrev s_best_stages_over : Stmt := top 6
theorem sc_best_stages_over : FnScope ["flows", "count", "tails", "placed", "below"] ["flows", "count"] (defScope s_best_stages_over) := ⟨rfl, rfl, rfl, by decide +kernel, rfl, by decide +kernel, by decide +kernel⟩
/-- the best stages, as a list: the power, then the grades -/
def spBest (K : PySem.W.Frag) : Sp := fun vs H Q _ => ∃ (a : Addr) (c : List Nat) (k : Nat), vs = [.ref a, .int (k : Nat)] ∧ SqL K H a (nv c) ∧ c.length ≤ 16 ∧ (∀ x ∈ c, x ≤ 1000) ∧ k ≤ c.length ∧
  ∀ H' p, Same H H' → H p = none → H' p = some (.lst (tv (Kqk2.bestFrom c k 0))) → Q (.ref p) H'
theorem ok_best_stages_over {f : Addr} {fd : FuncData} (F : Fun K "best_stages_over" "best_stages_over" s_best_stages_over f fd) (T : Txt K mg C aLC aNC aOP)
    (G_best_tail : DefN P w K mg base 1 "best_tail" ["flows", "below", "tails"] (spTail K)) : FnOk P w K mg base CX0 2 f fd ["flows", "count"] (spBest K) := by
  refine F.ok sc_best_stages_over (fun vs H Q E h => ?_) (fun cdv A outer s H vs Q E hr h => ⟨_, (pss_cons (ps_set (i := 2) sc_best_stages_over.nd rfl (Or.inr rfl) (pe_lc (own := [("below", 4)]) rfl sc_best_stages_over.nd (pi_range1 rfl T.n_range (pa_cons (pe_op op_add (pe_callB call_len_seq (by rfl) T.n_len (by decide +kernel) (pa_cons (pv 0) pa_nil)) pe_int) pa_nil)) (blkOk_by (N := ["flows", "count", "tails", "placed", "below"]) (sc := defScope s_best_stages_over) (by decide +kernel)) (fun _ _ _ _ _ => (pg_name (i := 4) sc_best_stages_over.nd rfl (Or.inl rfl))) (fun _ _ _ _ _ => pts_nil) (fun _ _ _ _ _ => (pe_lst (pa_cons pe_int pa_nil)))))
 (pss_cons (ps_for PassesOwn.never rfl (pi_range1 rfl T.n_range (pa_cons (pv 1) pa_nil)) (pg_name (i := 3) sc_best_stages_over.nd rfl (Or.inl rfl)) (pss_one (ps_set (i := 2) sc_best_stages_over.nd rfl (Or.inr rfl) (pe_lc (own := [("below", 4)]) rfl sc_best_stages_over.nd (pi_range1 rfl T.n_range (pa_cons (pe_op op_sub (pe_callB call_len_seq (by rfl) T.n_len (by decide +kernel) (pa_cons (pv 2) pa_nil)) pe_int) pa_nil)) (blkOk_by (N := ["flows", "count", "tails", "placed", "below"]) (sc := defScope s_best_stages_over) (by decide +kernel)) (fun _ _ _ _ _ => (pg_name (i := 4) sc_best_stages_over.nd rfl (Or.inl rfl))) (fun _ _ _ _ _ => pts_nil) (fun _ _ _ _ _ => (pe_fn G_best_tail (hr.mono (by decide)) (by rfl) (pa_cons (pv 0) (pa_cons (pv 4) (pa_cons (pv 2) pa_nil)))))))))
 (pss_one (ps_ret (pe_ix ix_list (pv 2) pe_int (fun _ _ => rfl)))))), ?_⟩)
  · obtain ⟨a, c, k, rfl, _⟩ := h
    rfl
  · obtain ⟨a, c, k, rfl, hc, hlen, hmax, hk, q⟩ := h
    -- tails = [[0] for below in range(len(flows) + 1)]
    refine ⟨_, rfl, a, _, rfl, .inl hc, _, _, rfl, rfl, _, rfl, by rw [nv_len]; omega, by rw [nv_len]; omega, fun D hD => ?_⟩
    refine lc_range (lo := 0) (fun i H' => News H H' D (fun j => tv (Kqk2.bestFrom c 0 j)) i) (News.nil hD) (fun i H1 hi n => ⟨rfl, ?_⟩) (fun H1 n => ?_)
    · refine ⟨by show 1 ≤ sizeLine; decide, fun p hp => ?_⟩
      rw [nv_len] at hi
      refine News.more hD n (same_upd (Same.refl _) hp) hp ?_ (by omega)
      rw [upd_same, KM.best_zero]
      rfl
    · -- for placed in range(count)
      rw [nv_len, show ((c.length : Int) + 1).toNat = c.length + 1 by omega] at n
      have T0 : Tails H H1 D c 0 := by
        obtain ⟨rs, h1, h2, h3, h4⟩ := n
        exact ⟨rs, h1, by omega, fun j r e => (h4 j r e).2⟩
      have S0 : Same H H1 := by
        obtain ⟨rs, h1, h2, h3, h4⟩ := n
        exact h3
      refine ⟨_, rfl, _, rfl, by omega, by omega, ?_⟩
      refine for_range (lo := 0) (fun i σ H' => ∃ (t : Addr) (v u : Option V), σ = [some (.ref a), some (.int (k : Nat)), some (.ref t), v, u] ∧ Same H H' ∧ Tails H H' t c i) ⟨D, none, none, rfl, S0, T0⟩ ?_ ?_
      · rintro i σ H2 hi ⟨t, v, u, rfl, sm, tl⟩
        rw [Int.toNat_natCast] at hi
        obtain ⟨rs, h1, h2, h3⟩ := tl
        refine ⟨_, rfl, t, _, rfl, .inl (SqL.of h1), _, _, rfl, rfl, _, rfl, by rw [List.length_map]; omega, by rw [List.length_map]; omega, fun D2 hD2 => ?_⟩
        refine lc_range (lo := 0) (fun j H' => News H2 H' D2 (fun j => tv (Kqk2.bestFrom c (i + 1) j)) j) (News.nil hD2) (fun j H3 hj n => ⟨rfl, ?_⟩) (fun H3 n => ?_)
        · rw [List.length_map, h2] at hj
          have S3 : Same H2 H3 := by
            obtain ⟨_, _, _, h, _⟩ := n
            exact h
          refine ⟨_, rfl, _, rfl, _, rfl, H, a, t, c, i, j, ?_, S3.seq (sm.seq hc), hlen, hmax, ⟨rs, S3 _ _ h1, h2, fun j r e => ⟨(h3 j r e).1, S3 _ _ (h3 j r e).2⟩⟩, by omega, fun H4 p s4 np hp => ?_⟩
          · show [V.ref a, V.int (0 + (j : Int)), V.ref t] ++ [] = _
            rw [Int.zero_add, List.append_nil]
          · exact News.more hD2 n s4 np hp (by omega)
        · obtain ⟨rs2, g1, g2, g3, g4⟩ := n
          rw [List.length_map, h2] at g2
          exact ⟨D2, _, _, rfl, sm.trans g3, rs2, g1, by omega, fun j r e => ⟨sm.free (g4 j r e).2.1, (g4 j r e).2.2⟩⟩
      · rintro σ H2 ⟨t, v, u, rfl, sm, tl⟩
        rw [Int.toNat_natCast] at tl
        obtain ⟨rs, h1, h2, h3⟩ := tl
        obtain ⟨r, hr0⟩ : ∃ r, rs[0]? = some r := ⟨rs[0]'(by omega), List.getElem?_eq_getElem (by omega)⟩
        refine ⟨_, rfl, t, _, _, .ref r, rfl, rfl, SqL.of h1, atI_of (j := 0) rfl ?_, ?_⟩
        · rw [List.getElem?_map, hr0]
          rfl
        · exact q H2 r sm (h3 0 r hr0).1 (h3 0 r hr0).2
end
end FG
namespace FG
open PySem PySem.Spec PyProof.Rows L2
/-! ## the instance in the heap -/
def insF (u v : V) : List (Str × V) := [("flows", u), ("stages", v)]
theorem insF_flows (u v : V) : (insF u v).lookup ("flows" : Str) = some u := lk_here
theorem insF_stages (u v : V) : (insF u v).lookup ("stages" : Str) = some v := (lk_past (by decide +kernel)).trans lk_here
theorem insF_no {m : Str} (u v : V) (h1 : (m == ("flows" : Str)) = false := by decide +kernel) (h2 : (m == ("stages" : Str)) = false := by decide +kernel) : (insF u v).lookup m = none := (lk_past h1).trans ((lk_past h2).trans rfl)
theorem put_flows (u v y : V) : putF "flows" y (insF u v) = insF y v := put_here
theorem put_stages (u v y : V) : putF "stages" y (insF u v) = insF u y := (put_past (by decide +kernel)).trans (congrArg _ put_here)
theorem put_new (y z : V) : putF "stages" z (putF "flows" y []) = insF y z := (put_past (by decide +kernel)).trans rfl
/-- the instance at x: its flows, its stages; neither list stands at ad (where the answers are gathered) -/
def Ins (C ad : Addr) (H : Hp) (x : Addr) (c s : List Nat) : Prop := ∃ dx fl st, H x = some (.ins C dx (insF (.ref fl) (.ref st))) ∧ H fl = some (.lst (nv c)) ∧ H st = some (.lst (nv s)) ∧ fl ≠ ad ∧ st ≠ ad
theorem Ins.same {C ad : Addr} {H H' : Hp} {x : Addr} {c s : List Nat} (i : Ins C ad H x c s) (e : Same H H') : Ins C ad H' x c s := by
  obtain ⟨dx, fl, st, a, b, d, n1, n2⟩ := i
  exact ⟨dx, fl, st, e _ _ a, e _ _ b, e _ _ d, n1, n2⟩
/-- what stands at ad may change -/
theorem Ins.aside {C ad : Addr} {H : Hp} {x : Addr} {c s : List Nat} {o : HO} (i : Ins C ad H x c s) (hx : ad ≠ x) : Ins C ad (upd H ad o) x c s := by
  obtain ⟨dx, fl, st, a, b, d, n1, n2⟩ := i
  exact ⟨dx, fl, st, by rw [upd_ne hx.symm]; exact a, by rw [upd_ne n1]; exact b, by rw [upd_ne n2]; exact d, n1, n2⟩
/-- all but what stands at x is as it was -/
def But (x : Addr) (H H' : Hp) : Prop := ∀ b o, H b = some o → b ≠ x → H' b = some o
theorem But.refl (x : Addr) (H : Hp) : But x H H := fun _ _ h _ => h
theorem But.of {x : Addr} {H H' : Hp} (h : Same H H') : But x H H' := fun b o e _ => h b o e
theorem But.same {x : Addr} {H H1 H2 : Hp} (a : But x H H1) (b : Same H1 H2) : But x H H2 := fun c o h n => b c o (a c o h n)
theorem But.trans {x : Addr} {H H1 H2 : Hp} (a : But x H H1) (b : But x H1 H2) : But x H H2 := fun c o h n => b c o (a c o h n) n
theorem But.put {x : Addr} {H H1 : Hp} {o : HO} (a : But x H H1) : But x H (upd H1 x o) := fun c u h n => by
  rw [upd_ne n]
  exact a c u h n
def cv : Option Kqk2.Plant → List Nat
  | none => []
  | some p => p.curve
def sg : Option Kqk2.Plant → List Nat
  | none => []
  | some p => p.stages
/-- the instance at x is in the state s -/
structure StAt (C ad : Addr) (H : Hp) (x : Addr) (s : Option Kqk2.Plant) : Prop where
  ins : Ins C ad H x (cv s) (sg s)
  good : KM.GoodS s
theorem StAt.same {C ad : Addr} {H H' : Hp} {x : Addr} {s : Option Kqk2.Plant} (i : StAt C ad H x s) (e : Same H H') : StAt C ad H' x s := ⟨i.ins.same e, i.good⟩
/-- what a call does: the state and the answer of the specification's step; all else stands -/
def Done (C ad x : Addr) (H : Hp) (s : Option Kqk2.Plant) (p : Nat) (xs : List Nat) (Q : VK) : Prop :=
  ∀ H' q, But x H H' → StAt C ad H' x (KM.opStep s p xs).1 → q ≠ ad → H' q = some (.lst ((KM.opStep s p xs).2.map V.int)) → Q (.ref q) H'
theorem Done.stay {C ad x : Addr} {H H' : Hp} {s : Option Kqk2.Plant} {p : Nat} {xs : List Nat} {Q : VK} {q : Addr} {zs : List V} (d : Done C ad x H s p xs Q) (st : StAt C ad H x s) (sm : Same H H') (e1 : (KM.opStep s p xs).1 = s)
    (had : ∃ ys, H ad = some (.lst ys)) (nq : H q = none) (hq : H' q = some (.lst zs)) (e2 : zs = (KM.opStep s p xs).2.map V.int) : Q (.ref q) H' :=
  d H' q (.of sm) (by rw [e1]; exact st.same sm) (by
    obtain ⟨ys, had⟩ := had
    exact (ne_of_none had nq).symm) (by rw [hq, e2])
def spOp (C : Addr) (p : Nat) : Sp := fun vs H Q _ => ∃ (x b ad : Addr) (s : Option Kqk2.Plant) (xs : List Nat), vs = [.ref x, .ref b] ∧ StAt C ad H x s ∧ (∃ ys, H ad = some (.lst ys)) ∧ H b = some (.lst (nv xs)) ∧ (p = 0 ∨ s ≠ none) ∧ (p ∈ KM.lists ∨ xs.length = KM.cnt p) ∧ Done C ad x H s p xs Q
theorem sum_cast : ∀ l : List Nat, (KM.iz l).sum = ((Kqk2.sum l : Nat) : Int)
  | [] => rfl
  | x :: r => by
    rw [KM.sum_eq, List.sum_cons]
    show (x : Int) + (KM.iz r).sum = _
    rw [sum_cast r, KM.sum_eq]
    omega
theorem bl_of {Q : VK} {H : Hp} {p q : Prop} [Decidable p] [Decidable q] (k : Q (.bl (decide q)) H) (h : p ↔ q) : Q (.bl (decide p)) H := by
  rw [decide_eq_decide.mpr h]
  exact k
theorem bl_no {Q : VK} {H : Hp} {q : Prop} [Decidable q] (k : Q (.bl (decide q)) H) (h : ¬ q) : Q (.bl false) H := by
  rw [decide_eq_false h] at k
  exact k
section
variable {P : Program} {w : World} {K : PySem.W.Frag} {mg : Str → Option Value} {base : Heap} {C aLC aNC aOP : Addr}
/-! ## the class -/
abbrev s_Instance___init__ : Stmt := inClass (top 24) 0
theorem sc_Instance___init__ : FnScope ["self"] ["self"] (defScope s_Instance___init__) := ⟨rfl, rfl, rfl, by decide +kernel, rfl, by decide +kernel, by decide +kernel⟩
def spInit (C : Addr) : Sp := fun vs H Q _ => ∃ (p dx : Addr), vs = [.ref p] ∧ H p = some (.ins C dx []) ∧ ∀ (H' : Hp) (dx fl st : Addr), H' p = some (.ins C dx (insF (.ref fl) (.ref st))) → H' fl = some (.lst []) → H' st = some (.lst []) → But p H H' → Q .non H'
theorem ok_init {f : Addr} {fd : FuncData} (F : Fun K "__init__" "Instance.__init__" s_Instance___init__ f fd) (T : Txt K mg C aLC aNC aOP) : FnOk P w K mg base CX0 1 f fd ["self"] (spInit C) := by
  refine F.ok sc_Instance___init__ (fun vs H Q E h => ?_) (fun cdv A outer s H vs Q E hr h => ⟨_, (pss_cons (ps_fld (pv 0) (pe_lst pa_nil) rfl)
 (pss_one (ps_fld (pv 0) (pe_lst pa_nil) rfl))), ?_⟩)
  · obtain ⟨p, dx, rfl, _⟩ := h
    rfl
  · obtain ⟨p, dx, rfl, hp, k⟩ := h
    refine ⟨Nat.zero_le _, fun l1 n1 => ⟨_, rfl, p, C, dx, _, rfl, keep_upd hp n1, T.cl_Instance, T.na_flows, (by show 0 < 1000; decide), ?_⟩⟩
    have e1 : l1 ≠ p := (ne_of_none hp n1).symm
    refine ⟨Nat.zero_le _, fun l2 n2 => ⟨_, rfl, p, C, dx, _, rfl, keep_upd upd_same n2, T.cl_Instance, T.na_stages, (by show 1 < 1000; decide), ?_⟩⟩
    have e2 : l2 ≠ p := (ne_of_none (H := upd (upd H l1 _) p _) upd_same n2).symm
    have e3 : l1 ≠ l2 := ne_of_none (H := upd (upd H l1 (.lst [])) p _) (by rw [upd_ne e1]; exact upd_same) n2
    refine k _ dx l1 l2 ?_ ?_ ?_ ?_
    · rw [upd_same]
      exact congrArg (fun q => some (HO.ins C dx q)) (put_new (.ref l1) (.ref l2))
    · rw [upd_ne e1, upd_ne e3, upd_ne e1]
      exact upd_same
    · rw [upd_ne e2]
      exact upd_same
    · intro b o e hb
      rw [upd_ne hb, upd_ne (ne_of_none (H := upd (upd H l1 (.lst [])) p _) (by rw [upd_ne hb]; exact keep_upd e n1) n2), upd_ne hb]
      exact keep_upd e n1
abbrev s_Instance_has_curve : Stmt := inClass (top 24) 1
theorem sc_Instance_has_curve : FnScope ["self"] ["self"] (defScope s_Instance_has_curve) := ⟨rfl, rfl, rfl, by decide +kernel, rfl, by decide +kernel, by decide +kernel⟩
def spHasCurve (C : Addr) : Sp := fun vs H Q _ => ∃ (x ad : Addr) (c s : List Nat), vs = [.ref x] ∧ Ins C ad H x c s ∧ Q (.bl (decide (0 < c.length))) H
theorem ok_has_curve {f : Addr} {fd : FuncData} (F : Fun K "has_curve" "Instance.has_curve" s_Instance_has_curve f fd) (T : Txt K mg C aLC aNC aOP) : FnOk P w K mg base CX0 1 f fd ["self"] (spHasCurve C) := by
  refine F.ok sc_Instance_has_curve (fun vs H Q E h => ?_) (fun cdv A outer s H vs Q E hr h => ⟨_, (pss_one (ps_ret (pe_cmpR op_gt (pe_callB call_len_seq (by rfl) T.n_len (by decide +kernel) (pa_cons (pe_fld (pv 0) rfl) pa_nil)) pe_int (nomark _)))), ?_⟩)
  · obtain ⟨x, ad, c, s, rfl, _⟩ := h
    rfl
  · obtain ⟨x, ad, c, st, rfl, ⟨dx, fl, sl, h1, h2, h3, n1, n2⟩, k⟩ := h
    refine ⟨_, rfl, x, C, dx, _, _, rfl, h1, T.cl_Instance, T.na_flows, insF_flows _ _, fl, _, rfl, .inl (SqL.of h2), _, _, rfl, rfl, ?_⟩
    exact bl_of k (by rw [nv_len]; omega)
abbrev s_Instance_has_grade : Stmt := inClass (top 24) 2
theorem sc_Instance_has_grade : FnScope ["self", "grade"] ["self", "grade"] (defScope s_Instance_has_grade) := ⟨rfl, rfl, rfl, by decide +kernel, rfl, by decide +kernel, by decide +kernel⟩
def spHasGrade (C : Addr) : Sp := fun vs H Q _ => ∃ (x ad : Addr) (g : Nat) (c s : List Nat), vs = [.ref x, .int (g : Nat)] ∧ Ins C ad H x c s ∧ Q (.bl (decide (1 ≤ g ∧ g ≤ c.length))) H
theorem ok_has_grade {f : Addr} {fd : FuncData} (F : Fun K "has_grade" "Instance.has_grade" s_Instance_has_grade f fd) (T : Txt K mg C aLC aNC aOP) : FnOk P w K mg base CX0 1 f fd ["self", "grade"] (spHasGrade C) := by
  refine F.ok sc_Instance_has_grade (fun vs H Q E h => ?_) (fun cdv A outer s H vs Q E hr h => ⟨_, (pss_one (ps_ret (pe_chain op_le op_le pe_int (pv 1) (pe_callB call_len_seq (by rfl) T.n_len (by decide +kernel) (pa_cons (pe_fld (pv 0) rfl) pa_nil))))), ?_⟩)
  · obtain ⟨x, ad, g, c, s, rfl, _⟩ := h
    rfl
  · obtain ⟨x, ad, g, c, st, rfl, ⟨dx, fl, sl, h1, h2, h3, n1, n2⟩, k⟩ := h
    refine ⟨_, rfl, _, _, rfl, rfl, _, rfl, ?_⟩
    by_cases h : (1 : Int) ≤ (g : Int)
    · refine if_true_of (decide_eq_true h) ⟨_, rfl, x, C, dx, _, _, rfl, h1, T.cl_Instance, T.na_flows, insF_flows _ _, fl, _, rfl, .inl (SqL.of h2), _, _, rfl, rfl, ?_⟩
      exact bl_of k (by rw [nv_len]; omega)
    · refine if_false_of (decide_eq_false h) ?_
      exact bl_no k (by omega)
abbrev s_Instance_allows_count : Stmt := inClass (top 24) 3
theorem sc_Instance_allows_count : FnScope ["self", "count"] ["self", "count"] (defScope s_Instance_allows_count) := ⟨rfl, rfl, rfl, by decide +kernel, rfl, by decide +kernel, by decide +kernel⟩
def spAllows (C : Addr) : Sp := fun vs H Q _ => ∃ (x ad : Addr) (g : Nat) (c s : List Nat), vs = [.ref x, .int (g : Nat)] ∧ Ins C ad H x c s ∧ Q (.bl (decide (g ≤ 5 ∧ g ≤ c.length))) H
theorem ok_allows_count {f : Addr} {fd : FuncData} (F : Fun K "allows_count" "Instance.allows_count" s_Instance_allows_count f fd) (T : Txt K mg C aLC aNC aOP) : FnOk P w K mg base CX0 1 f fd ["self", "count"] (spAllows C) := by
  refine F.ok sc_Instance_allows_count (fun vs H Q E h => ?_) (fun cdv A outer s H vs Q E hr h => ⟨_, (pss_one (ps_ret (pe_and (pe_cmpR op_le (pv 1) (pe_const (by rfl) T.c_MOST_STAGES) (nomark _)) (pe_one (pe_cmpR op_le (pv 1) (pe_callB call_len_seq (by rfl) T.n_len (by decide +kernel) (pa_cons (pe_fld (pv 0) rfl) pa_nil)) (nomark _)))))), ?_⟩)
  · obtain ⟨x, ad, g, c, s, rfl, _⟩ := h
    rfl
  · obtain ⟨x, ad, g, c, st, rfl, ⟨dx, fl, sl, h1, h2, h3, n1, n2⟩, k⟩ := h
    refine ⟨_, rfl, _, _, rfl, rfl, _, rfl, ?_⟩
    by_cases h : (g : Int) ≤ 5
    · refine if_true_of (decide_eq_true h) ⟨_, rfl, _, rfl, x, C, dx, _, _, rfl, h1, T.cl_Instance, T.na_flows, insF_flows _ _, fl, _, rfl, .inl (SqL.of h2), _, _, rfl, rfl, ?_⟩
      exact bl_of k (by rw [nv_len]; omega)
    · refine if_false_of (decide_eq_false h) ?_
      exact bl_no k (by omega)
abbrev s_Instance_stages_power : Stmt := inClass (top 24) 4
theorem sc_Instance_stages_power : FnScope ["self"] ["self"] (defScope s_Instance_stages_power) := ⟨rfl, rfl, rfl, by decide +kernel, rfl, by decide +kernel, by decide +kernel⟩
def spSPow (C : Addr) : Sp := fun vs H Q _ => ∃ (x ad : Addr) (c s : List Nat), vs = [.ref x] ∧ Ins C ad H x c s ∧ c.length ≤ 16 ∧ KM.Asc c.length 0 s ∧ Q (.int (Kqk2.power c s : Nat)) H
theorem ok_stages_power {f : Addr} {fd : FuncData} (F : Fun K "stages_power" "Instance.stages_power" s_Instance_stages_power f fd) (T : Txt K mg C aLC aNC aOP) (G_power_over : DefN P w K mg base 1 "power_over" ["flows", "grades"] (spPower K)) :
    FnOk P w K mg base CX0 2 f fd ["self"] (spSPow C) := by
  refine F.ok sc_Instance_stages_power (fun vs H Q E h => ?_) (fun cdv A outer s H vs Q E hr h => ⟨_, (pss_one (ps_ret (pe_fn G_power_over (hr.mono (by decide)) (by rfl) (pa_cons (pe_fld (pv 0) rfl) (pa_cons (pe_fld (pv 0) rfl) pa_nil))))), ?_⟩)
  · obtain ⟨x, ad, c, s, rfl, _⟩ := h
    rfl
  · obtain ⟨x, ad, c, st, rfl, ⟨dx, fl, sl, h1, h2, h3, n1, n2⟩, len, asc, k⟩ := h
    exact ⟨_, rfl, x, C, dx, _, _, rfl, h1, T.cl_Instance, T.na_flows, insF_flows _ _, _, rfl, x, C, dx, _, _, rfl, h1, T.cl_Instance, T.na_stages, insF_stages _ _, fl, sl, c, st, rfl, SqL.of h2, SqL.of h3, len, asc, k⟩
end
end FG
namespace FG
open PySem PySem.Spec PyProof.Rows L2
theorem one_of {xs : List Nat} (h : xs.length = 1) : ∃ a, xs = [a] := List.length_eq_one_iff.mp h
theorem two_of {xs : List Nat} (h : xs.length = 2) : ∃ a b, xs = [a, b] := by
  match xs, h with
  | [a, b], _ => exact ⟨a, b, rfl⟩
theorem zero_of {xs : List Nat} (h : xs.length = 0) : xs = [] := List.eq_nil_of_length_eq_zero h
theorem some_of {s : Option Kqk2.Plant} {p : Nat} (h : p = 0 ∨ s ≠ none) (h0 : p ≠ 0) : ∃ pl, s = some pl := by
  cases s with
  | none => exact absurd rfl (h.resolve_left h0)
  | some pl => exact ⟨pl, rfl⟩
theorem cnt_of {p n : Nat} {xs : List Nat} (h : p ∈ KM.lists ∨ xs.length = KM.cnt p) (h0 : p ∉ KM.lists := by decide) (e : KM.cnt p = n := by rfl) : xs.length = n := by
  rw [← e]
  exact h.resolve_left h0
/-- the flows get another list -/
theorem Ins.flows {C ad : Addr} {H : Hp} {x dx fl st l : Addr} {c s : List Nat} (hx : H x = some (.ins C dx (insF (.ref fl) (.ref st)))) (hl : H l = some (.lst (nv c))) (hs : H st = some (.lst (nv s))) (n1 : l ≠ ad) (n2 : st ≠ ad) :
    Ins C ad (upd H x (.ins C dx (putF "flows" (.ref l) (insF (.ref fl) (.ref st))))) x c s := by
  refine ⟨dx, l, st, ?_, ?_, ?_, n1, n2⟩
  · rw [upd_same, put_flows]
  · rw [upd_ne (ne_of hl hx (by intro z; cases z))]
    exact hl
  · rw [upd_ne (ne_of hs hx (by intro z; cases z))]
    exact hs
theorem Ins.stages {C ad : Addr} {H : Hp} {x dx fl st l : Addr} {c s : List Nat} (hx : H x = some (.ins C dx (insF (.ref fl) (.ref st)))) (hl : H l = some (.lst (nv s))) (hf : H fl = some (.lst (nv c))) (n1 : fl ≠ ad) (n2 : l ≠ ad) :
    Ins C ad (upd H x (.ins C dx (putF "stages" (.ref l) (insF (.ref fl) (.ref st))))) x c s := by
  refine ⟨dx, fl, l, ?_, ?_, ?_, n1, n2⟩
  · rw [upd_same, put_stages]
  · rw [upd_ne (ne_of hf hx (by intro z; cases z))]
    exact hf
  · rw [upd_ne (ne_of hl hx (by intro z; cases z))]
    exact hl
/-- a new list stands elsewhere -/
theorem new_ne {H : Hp} {ad l : Addr} {o : HO} (had : H ad = some o) (nl : H l = none) : l ≠ ad := (ne_of_none had nl).symm
theorem two1000 : 2 < 1000 := by decide
section
variable {P : Program} {w : World} {K : PySem.W.Frag} {mg : Str → Option Value} {base : Heap} {C aLC aNC aOP : Addr}
/-! ## 0 set_curve -/
abbrev s_set_curve : Stmt := top 25
theorem sc_set_curve : FnScope ["instance", "numbers"] ["instance", "numbers"] (defScope s_set_curve) := ⟨rfl, rfl, rfl, by decide +kernel, rfl, by decide +kernel, by decide +kernel⟩
theorem ok_set_curve {f : Addr} {fd : FuncData} (F : Fun K "set_curve" "set_curve" s_set_curve f fd) (T : Txt K mg C aLC aNC aOP) (G_is_curve : DefN P w K mg base 1 "is_curve" ["flows"] (spIsCurve K)) :
    FnOk P w K mg base CX0 2 f fd ["instance", "numbers"] (spOp C 0) := by
  refine F.ok sc_set_curve (fun vs H Q E h => ?_) (fun cdv A outer s H vs Q E hr h => ⟨_, (pss_cons (ps_if (pt_not (pt_val (pe_fn G_is_curve (hr.mono (by decide)) (by rfl) (pa_cons (pv 1) pa_nil)))) (pss_one (ps_ret (pe_lst (pa_cons (pe_const (by rfl) T.c_OUT_OF_RANGE) pa_nil)))) pss_nil)
 (pss_cons (ps_fld (pv 0) (pe_callTy call_list_of (by rfl) T.n_list (by decide +kernel) (pa_cons (pv 1) pa_nil)) rfl)
 (pss_cons (ps_fld (pv 0) (pe_lst pa_nil) rfl)
 (pss_one (ps_ret (pe_lst (pa_cons (pe_callB call_len_seq (by rfl) T.n_len (by decide +kernel) (pa_cons (pe_fld (pv 0) rfl) pa_nil)) pa_nil))))))), ?_⟩)
  · obtain ⟨x, b, ad, s, xs, rfl, _⟩ := h
    rfl
  · obtain ⟨x, b, ad, st, xs, rfl, sa, ⟨ys, had⟩, hb, _, _, d⟩ := h
    have ⟨⟨dx, fl, sl, h1, h2, h3, n1, n2⟩, gd⟩ := sa
    have hax : ad ≠ x := ne_of had h1 (by intro z; cases z)
    refine ⟨_, rfl, b, xs, rfl, SqL.of hb, _, rfl, ?_⟩
    cases e : Kqk2.isCurve xs with
    | false =>
      refine if_true_of rfl ?_
      refine ⟨by show 1 ≤ sizeLine; decide, fun p hp => ?_⟩
      exact d.stay sa (same_upd (Same.refl H) hp) (by rw [KM.op0_bad e]) ⟨_, had⟩ hp upd_same (by rw [KM.op0_bad e]; rfl)
    | true =>
      refine if_false_of rfl ?_
      refine ⟨_, rfl, b, _, rfl, .inl (SqL.of hb), fun l nl => ⟨_, rfl, x, C, dx, _, rfl, keep_upd h1 nl, T.cl_Instance, T.na_flows, two1000, ?_⟩⟩
      have i1 := Ins.flows (c := xs) (keep_upd h1 nl) (upd_same (H := H) (a := l)) (keep_upd h3 nl) (new_ne had nl) n2
      obtain ⟨dx1, fl1, sl1, g1, g2, g3, m1, m2⟩ := i1
      refine ⟨Nat.zero_le _, fun l2 nl2 => ⟨_, rfl, x, C, dx1, _, rfl, keep_upd g1 nl2, T.cl_Instance, T.na_stages, two1000, ?_⟩⟩
      have i2 := Ins.stages (s := []) (keep_upd g1 nl2) upd_same (keep_upd g2 nl2) m1 (new_ne (o := .lst ys) (by rw [upd_ne hax]; exact keep_upd had nl) nl2)
      obtain ⟨dx2, fl2, sl2, k1, k2, k3, p1, p2⟩ := i2
      refine ⟨_, rfl, x, C, dx2, _, _, rfl, k1, T.cl_Instance, T.na_flows, insF_flows _ _, fl2, _, rfl, .inl (SqL.of k2), by show 1 ≤ sizeLine; decide, fun p hp => ?_⟩
      refine d _ p (((((But.of (same_upd (Same.refl H) nl)).put).same (same_upd (Same.refl _) nl2)).put).same (same_upd (Same.refl _) hp)) ?_ (new_ne (((((But.of (same_upd (Same.refl H) nl)).put).same (same_upd (Same.refl _) nl2)).put) _ _ had hax) hp) (upd_same.trans ?_)
      · rw [KM.op0_ok e]
        exact ⟨Ins.same ⟨dx2, fl2, sl2, k1, k2, k3, p1, p2⟩ (same_upd (Same.refl _) hp), ⟨e, trivial⟩⟩
      · rw [KM.op0_ok e, nv_len]
        rfl
/-! ## 1 set_flow -/
abbrev s_set_flow : Stmt := top 26
theorem sc_set_flow : FnScope ["instance", "numbers", "grade", "changed", "previous"] ["instance", "numbers"] (defScope s_set_flow) := ⟨rfl, rfl, rfl, by decide +kernel, rfl, by decide +kernel, by decide +kernel⟩
theorem ok_set_flow {f : Addr} {fd : FuncData} (F : Fun K "set_flow" "set_flow" s_set_flow f fd) (T : Txt K mg C aLC aNC aOP) (G_is_curve : DefN P w K mg base 1 "is_curve" ["flows"] (spIsCurve K))
    (M_Instance_has_grade : MethN P w K mg base 1 C "has_grade" ["self", "grade"] (spHasGrade C)) :
    FnOk P w K mg base CX0 2 f fd ["instance", "numbers"] (spOp C 1) := by
  refine F.ok sc_set_flow (fun vs H Q E h => ?_) (fun cdv A outer s H vs Q E hr h => ⟨_, (pss_cons (ps_set (i := 2) sc_set_flow.nd rfl (Or.inl rfl) (pe_ix ix_list (pv 1) pe_int (fun _ _ => rfl)))
 (pss_cons (ps_if (pt_not (pt_val (pe_mt M_Instance_has_grade T.cl_Instance (hr.mono (by decide)) (pv 0) (pa_cons (pv 2) pa_nil)))) (pss_one (ps_ret (pe_lst (pa_cons (pe_const (by rfl) T.c_NOT_THERE) pa_nil)))) pss_nil)
 (pss_cons (ps_set (i := 3) sc_set_flow.nd rfl (Or.inl rfl) (pe_callTy call_list_of (by rfl) T.n_list (by decide +kernel) (pa_cons (pe_fld (pv 0) rfl) pa_nil)))
 (pss_cons (ps_asg (pe_ix ix_list (pv 1) pe_int (fun _ _ => rfl)) (pg_sub (pv 3) (pe_op op_sub (pv 2) pe_int) set_list))
 (pss_cons (ps_if (pt_not (pt_val (pe_fn G_is_curve (hr.mono (by decide)) (by rfl) (pa_cons (pv 3) pa_nil)))) (pss_one (ps_ret (pe_lst (pa_cons (pe_const (by rfl) T.c_OUT_OF_RANGE) pa_nil)))) pss_nil)
 (pss_cons (ps_set (i := 4) sc_set_flow.nd rfl (Or.inl rfl) (pe_ix ix_list (pe_fld (pv 0) rfl) (pe_op op_sub (pv 2) pe_int) (fun _ _ => rfl)))
 (pss_cons (ps_fld (pv 0) (pv 3) rfl)
 (pss_one (ps_ret (pe_lst (pa_cons (pv 4) pa_nil))))))))))), ?_⟩)
  · obtain ⟨x, b, ad, s, xs, rfl, _⟩ := h
    rfl
  · obtain ⟨x, b, ad, st, xs, rfl, sa, ⟨ys, had⟩, hb, hn, hx, d⟩ := h
    obtain ⟨pl, rfl⟩ := some_of hn (by decide)
    obtain ⟨g, f, rfl⟩ := two_of (cnt_of hx)
    have ⟨⟨dx, fl, sl, h1, h2, h3, n1, n2⟩, gd⟩ := sa
    have hax : ad ≠ x := ne_of had h1 (by intro z; cases z)
    refine ⟨_, rfl, b, _, _, _, rfl, rfl, SqL.of hb, atI_of (j := 0) rfl rfl, ?_⟩
    refine ⟨_, rfl, x, dx, _, rfl, h1, insF_no _ _, _, rfl, x, ad, g, _, _, rfl, sa.ins, _, rfl, ?_⟩
    by_cases hg : 1 ≤ g ∧ g ≤ pl.curve.length
    · refine if_false_of (by rw [show cv (some pl) = pl.curve from rfl, decide_eq_true hg]; rfl) ?_
      refine ⟨_, rfl, x, C, dx, _, _, rfl, h1, T.cl_Instance, T.na_flows, insF_flows _ _, fl, _, rfl, .inl (SqL.of h2), fun l nl => ?_⟩
      refine ⟨_, rfl, b, _, _, _, rfl, rfl, SqL.of (keep_upd hb nl), atI_of (j := 1) rfl rfl, _, rfl, _, rfl, _, _, rfl, rfl, l, _, _, g - 1, rfl, rfl, upd_same, ?_, ?_⟩
      · unfold ixN
        show (if 0 ≤ (g : Int) - 1 then (if (g : Int) - 1 < ((nv pl.curve).length : Nat) then some ((g : Int) - 1).toNat else none) else _) = some (g - 1)
        rw [nv_len, if_pos (by omega), if_pos (by omega)]
        congr 1
        omega
      have es : (nv pl.curve).set (g - 1) (.int (f : Nat)) = nv (pl.curve.set (g - 1) f) := by
        unfold nv
        rw [List.map_set]
      have hl : (upd (upd H l (.lst (nv pl.curve))) l (.lst ((nv pl.curve).set (g - 1) (.int (f : Nat))))) l = some (.lst (nv (pl.curve.set (g - 1) f))) := by
        rw [upd_same, es]
      have sm : Same H (upd (upd H l (.lst (nv pl.curve))) l (.lst ((nv pl.curve).set (g - 1) (.int (f : Nat))))) := by
        rw [upd_upd]
        exact same_upd (Same.refl H) nl
      refine ⟨_, rfl, l, _, rfl, SqL.of hl, _, rfl, ?_⟩
      cases e : Kqk2.isCurve (pl.curve.set (g - 1) f) with
      | false =>
        refine if_true_of rfl ?_
        refine ⟨by show 1 ≤ sizeLine; decide, fun p hp => ?_⟩
        exact d.stay sa (same_upd sm hp) (by rw [KM.op1_bad hg e]) ⟨_, had⟩ (sm.free hp) upd_same (by rw [KM.op1_bad hg e]; rfl)
      | true =>
        refine if_false_of rfl ?_
        have cg := flow_get (c := pl.curve) hg.1 hg.2
        refine ⟨_, rfl, x, C, dx, _, _, rfl, sm _ _ h1, T.cl_Instance, T.na_flows, insF_flows _ _, _, rfl, _, _, rfl, rfl, fl, _, _, _, rfl, rfl, SqL.of (sm _ _ h2), atI_of (j := g - 1) (by omega) (nv_at cg), ?_⟩
        refine ⟨_, rfl, _, rfl, x, C, dx, _, rfl, sm _ _ h1, T.cl_Instance, T.na_flows, two1000, ?_⟩
        have i1 := Ins.flows (sm _ _ h1) hl (sm _ _ h3) (new_ne had nl) n2
        refine ⟨_, rfl, by show 1 ≤ sizeLine; decide, fun p hp => ?_⟩
        refine d _ p (((But.of sm).put).same (same_upd (Same.refl _) hp)) ?_ (new_ne (((But.of sm).put) _ _ had hax) hp) (upd_same.trans ?_)
        · have G2 := KM.good_step (s := some pl) gd 1 [g, f]
          rw [KM.op1_ok hg e] at G2 ⊢
          exact ⟨i1.same (same_upd (Same.refl _) hp), G2⟩
        · rw [KM.op1_ok hg e]
          rfl
    · refine if_true_of (by rw [show cv (some pl) = pl.curve from rfl, decide_eq_false hg]; rfl) ?_
      refine ⟨by show 1 ≤ sizeLine; decide, fun p hp => ?_⟩
      exact d.stay sa (same_upd (Same.refl H) hp) (by rw [KM.op1_no hg]) ⟨_, had⟩ hp upd_same (by rw [KM.op1_no hg]; rfl)
end
end FG
namespace FG
open PySem PySem.Spec PyProof.Rows L2
theorem filter_snoc (s : List Nat) (n g : Nat) : (s ++ [n]).filter (fun x => decide (x ≤ g)) = s.filter (fun x => decide (x ≤ g)) ++ (if n ≤ g then [n] else []) := by
  rw [List.filter_append]
  congr 1
  by_cases h : n ≤ g
  · rw [if_pos h, List.filter_cons, if_pos (decide_eq_true h)]
    rfl
  · rw [if_neg h, List.filter_cons, if_neg (by simpa using h)]
    rfl
theorem nv_app (a b : List Nat) : nv (a ++ b) = nv a ++ nv b := List.map_append
theorem nv_ints (l : List Nat) : nv l = (KM.iz l).map V.int := nv_map l
theorem good_cur {pl : Kqk2.Plant} (g : KM.GoodS (some pl)) : Kqk2.isCurve pl.curve = true := g.cur
theorem good_asc {pl : Kqk2.Plant} (g : KM.GoodS (some pl)) : KM.Asc pl.curve.length 0 pl.stages := g.asc
theorem good_len {pl : Kqk2.Plant} (g : KM.GoodS (some pl)) : 1 ≤ pl.curve.length ∧ pl.curve.length ≤ 16 := ⟨(KM.isCurve_iff.mp g.cur).1, (KM.isCurve_iff.mp g.cur).2.1⟩
theorem good_max {pl : Kqk2.Plant} (g : KM.GoodS (some pl)) : ∀ x ∈ pl.curve, x ≤ 1000 := fun _ h => KM.ni_all (KM.isCurve_iff.mp g.cur).2.2 h
theorem good_slen {pl : Kqk2.Plant} (g : KM.GoodS (some pl)) : pl.stages.length ≤ 16 := by
  have := KM.asc_len (Nat.zero_le _) g.asc
  have := (good_len g).2
  omega
section
variable {P : Program} {w : World} {K : PySem.W.Frag} {mg : Str → Option Value} {base : Heap} {C aLC aNC aOP : Addr}
/-! ## 2 truncate -/
abbrev s_truncate : Stmt := top 27
theorem sc_truncate : FnScope ["instance", "numbers", "last_grade", "removed_count", "grade"] ["instance", "numbers"] (defScope s_truncate) := ⟨rfl, rfl, rfl, by decide +kernel, rfl, by decide +kernel, by decide +kernel⟩
theorem ok_truncate {f : Addr} {fd : FuncData} (F : Fun K "truncate" "truncate" s_truncate f fd) (T : Txt K mg C aLC aNC aOP)
    (M_Instance_has_grade : MethN P w K mg base 1 C "has_grade" ["self", "grade"] (spHasGrade C)) :
    FnOk P w K mg base CX0 2 f fd ["instance", "numbers"] (spOp C 2) := by
  refine F.ok sc_truncate (fun vs H Q E h => ?_) (fun cdv A outer s H vs Q E hr h => ⟨_, (pss_cons (ps_set (i := 2) sc_truncate.nd rfl (Or.inr rfl) (pe_ix ix_list (pv 1) pe_int (fun _ _ => rfl)))
 (pss_cons (ps_if (pt_not (pt_val (pe_mt M_Instance_has_grade T.cl_Instance (hr.mono (by decide)) (pv 0) (pa_cons (pv 2) pa_nil)))) (pss_one (ps_ret (pe_lst (pa_cons (pe_const (by rfl) T.c_NOT_THERE) pa_nil)))) pss_nil)
 (pss_cons (ps_set (i := 3) sc_truncate.nd rfl (Or.inl rfl) (pe_op op_sub (pe_callB call_len_seq (by rfl) T.n_len (by decide +kernel) (pa_cons (pe_fld (pv 0) rfl) pa_nil)) (pv 2)))
 (pss_cons (ps_fld (pv 0) (pe_slice sl_list (pe_fld (pv 0) rfl) po_none (po_some (pv 2))) rfl)
 (pss_cons (ps_fld (pv 0) (pe_lc (own := [("grade", 4)]) rfl sc_truncate.nd (pi_list (pe_fld (pv 0) rfl)) (blkOk_by (N := ["instance", "numbers", "last_grade", "removed_count", "grade"]) (sc := defScope s_truncate) (by decide +kernel)) (fun _ _ _ _ _ => (pg_name (i := 4) sc_truncate.nd rfl (Or.inl rfl))) (fun _ _ _ _ _ => (pts_one (pt_cmpR op_le (pv 4) (pv 2) (nomark _)))) (fun _ _ _ _ _ => (pv 4))) rfl)
 (pss_one (ps_ret (pe_lst (pa_cons (pv 3) pa_nil))))))))), ?_⟩)
  · obtain ⟨x, b, ad, s, xs, rfl, _⟩ := h
    rfl
  · obtain ⟨x, b, ad, st, xs, rfl, sa, ⟨ys, had⟩, hb, hn, hx, d⟩ := h
    obtain ⟨pl, rfl⟩ := some_of hn (by decide)
    obtain ⟨g, rfl⟩ := one_of (cnt_of hx)
    have ⟨⟨dx, fl, sl, h1, h2, h3, n1, n2⟩, gd⟩ := sa
    have hax : ad ≠ x := ne_of had h1 (by intro z; cases z)
    refine ⟨_, rfl, b, _, _, _, rfl, rfl, SqL.of hb, atI_of (j := 0) rfl rfl, ?_⟩
    refine ⟨_, rfl, x, dx, _, rfl, h1, insF_no _ _, _, rfl, x, ad, g, _, _, rfl, sa.ins, _, rfl, ?_⟩
    by_cases hg : 1 ≤ g ∧ g ≤ pl.curve.length
    · refine if_false_of (by rw [show cv (some pl) = pl.curve from rfl, decide_eq_true hg]; rfl) ?_
      refine ⟨_, rfl, x, C, dx, _, _, rfl, h1, T.cl_Instance, T.na_flows, insF_flows _ _, fl, _, rfl, .inl (SqL.of h2), _, rfl, _, _, rfl, rfl, ?_⟩
      -- instance.flows = instance.flows[:last_grade]
      refine ⟨_, rfl, x, C, dx, _, _, rfl, h1, T.cl_Instance, T.na_flows, insF_flows _ _, _, rfl, _, rfl, fl, _, rfl, SqL.of h2, fun l nl => ?_⟩
      refine ⟨_, rfl, x, C, dx, _, rfl, keep_upd h1 nl, T.cl_Instance, T.na_flows, two1000, ?_⟩
      have hl : (upd H l (.lst (cutV (nv pl.curve) none (some (g : Int))))) l = some (.lst (nv (pl.curve.take g))) := by
        rw [upd_same, cut_to]
      obtain ⟨dx1, fl1, sl1, g1, g2, g3, m1, m2⟩ := Ins.flows (keep_upd h1 nl) hl (keep_upd h3 nl) (new_ne had nl) n2
      -- instance.stages = [grade for grade in instance.stages if grade <= last_grade]
      refine ⟨_, rfl, x, C, dx1, _, _, rfl, g1, T.cl_Instance, T.na_stages, insF_stages _ _, sl1, rfl, ⟨_, SqL.of g3⟩, fun D hD => ?_⟩
      have st0 : sg (some pl) = pl.stages := rfl
      rw [st0] at g3
      refine lc_list (K := K) (a := sl1) (xs := nv pl.stages) (fun i H' => H' D = some (.lst (nv ((pl.stages.take i).filter fun x => decide (x ≤ g)))) ∧ Same _ H') ⟨upd_same, same_upd (Same.refl _) hD⟩ (fun i H' _ q => SqL.of (q.2 _ _ g3)) (fun i y H' hi q => ?_) (fun H' q => ?_)
      · obtain ⟨n, hn, rfl⟩ := nv_get hi
        obtain ⟨q1, q2⟩ := q
        have len : ((pl.stages.take i).filter fun x => decide (x ≤ g)).length ≤ 16 := by
          refine Nat.le_trans (List.length_filter_le _ _) ?_
          rw [List.length_take]
          have := good_slen gd
          omega
        refine ⟨rfl, _, rfl, _, rfl, _, _, rfl, rfl, _, rfl, ?_⟩
        have same2 : ∀ z, Same _ (upd H' D z) := fun z b o e => by
          rw [upd_ne (ne_of_none e hD)]
          exact q2 b o e
        by_cases hle : n ≤ g
        · refine if_true_of (decide_eq_true (by omega)) ?_
          refine ⟨_, rfl, _, q1, small1000 (by rw [nv_len]; omega), ?_, same2 _⟩
          rw [upd_same, take_succ hn, filter_snoc, if_pos hle, nv_app]
          rfl
        · refine if_false_of (decide_eq_false (by omega)) ?_
          refine ⟨?_, q2⟩
          rw [q1, take_succ hn, filter_snoc, if_neg hle, List.append_nil]
      · obtain ⟨q1, q2⟩ := q
        rw [nv_len, List.take_length] at q1
        refine ⟨_, rfl, x, C, dx1, _, rfl, q2 _ _ g1, T.cl_Instance, T.na_stages, two1000, ?_⟩
        have i2 := Ins.stages (q2 _ _ g1) q1 (q2 _ _ g2) m1 (new_ne (o := .lst ys) (by rw [upd_ne hax]; exact keep_upd had nl) hD)
        refine ⟨_, rfl, by show 1 ≤ sizeLine; decide, fun p hp => ?_⟩
        refine d _ p (((((But.of (same_upd (Same.refl H) nl)).put).same q2).put).same (same_upd (Same.refl _) hp)) ?_ (new_ne (((((But.of (same_upd (Same.refl H) nl)).put).same q2).put) _ _ had hax) hp) (upd_same.trans ?_)
        · have G2 := KM.good_step (s := some pl) gd 2 [g]
          rw [KM.op2_ok hg] at G2 ⊢
          exact ⟨i2.same (same_upd (Same.refl _) hp), G2⟩
        · rw [KM.op2_ok hg, nv_len]
          show some (HO.lst [V.int ((pl.curve.length : Int) - (g : Int))]) = some (HO.lst [V.int _])
          rw [Int.natCast_sub hg.2]
    · refine if_true_of (by rw [show cv (some pl) = pl.curve from rfl, decide_eq_false hg]; rfl) ?_
      refine ⟨by show 1 ≤ sizeLine; decide, fun p hp => ?_⟩
      exact d.stay sa (same_upd (Same.refl H) hp) (by rw [KM.op2_no hg]) ⟨_, had⟩ hp upd_same (by rw [KM.op2_no hg]; rfl)
/-! ## 3 reduce_flows -/
abbrev s_reduce_flows : Stmt := top 28
theorem sc_reduce_flows : FnScope ["instance", "numbers", "amount", "before", "flow"] ["instance", "numbers"] (defScope s_reduce_flows) := ⟨rfl, rfl, rfl, by decide +kernel, rfl, by decide +kernel, by decide +kernel⟩
theorem ok_reduce_flows {f : Addr} {fd : FuncData} (F : Fun K "reduce_flows" "reduce_flows" s_reduce_flows f fd) (T : Txt K mg C aLC aNC aOP) :
    FnOk P w K mg base CX0 1 f fd ["instance", "numbers"] (spOp C 3) := by
  refine F.ok sc_reduce_flows (fun vs H Q E h => ?_) (fun cdv A outer s H vs Q E hr h => ⟨_, (pss_cons (ps_set (i := 2) sc_reduce_flows.nd rfl (Or.inr rfl) (pe_ix ix_list (pv 1) pe_int (fun _ _ => rfl)))
 (pss_cons (ps_set (i := 3) sc_reduce_flows.nd rfl (Or.inl rfl) (pe_callB (cr_sum rfl) (by rfl) T.n_sum (by decide +kernel) (pa_cons (pe_fld (pv 0) rfl) pa_nil)))
 (pss_cons (ps_fld (pv 0) (pe_lc (own := [("flow", 4)]) rfl sc_reduce_flows.nd (pi_list (pe_fld (pv 0) rfl)) (blkOk_by (N := ["instance", "numbers", "amount", "before", "flow"]) (sc := defScope s_reduce_flows) (by decide +kernel)) (fun _ _ _ _ _ => (pg_name (i := 4) sc_reduce_flows.nd rfl (Or.inl rfl))) (fun _ _ _ _ _ => pts_nil) (fun _ _ _ _ _ => (pe_callB (call_max2 rfl) (by rfl) T.n_max (by decide +kernel) (pa_cons pe_int (pa_cons (pe_op op_sub (pv 4) (pv 2)) pa_nil))))) rfl)
 (pss_one (ps_ret (pe_lst (pa_cons (pe_op op_sub (pv 3) (pe_callB (cr_sum rfl) (by rfl) T.n_sum (by decide +kernel) (pa_cons (pe_fld (pv 0) rfl) pa_nil))) pa_nil))))))), ?_⟩)
  · obtain ⟨x, b, ad, s, xs, rfl, _⟩ := h
    rfl
  · obtain ⟨x, b, ad, st, xs, rfl, sa, ⟨ys, had⟩, hb, hn, hx, d⟩ := h
    obtain ⟨pl, rfl⟩ := some_of hn (by decide)
    obtain ⟨g, rfl⟩ := one_of (cnt_of hx)
    have ⟨⟨dx, fl, sl, h1, h2, h3, n1, n2⟩, gd⟩ := sa
    have hax : ad ≠ x := ne_of had h1 (by intro z; cases z)
    have cv0 : cv (some pl) = pl.curve := rfl
    rw [cv0] at h2
    refine ⟨_, rfl, b, _, _, _, rfl, rfl, SqL.of hb, atI_of (j := 0) rfl rfl, ?_⟩
    refine ⟨_, rfl, x, C, dx, _, _, rfl, h1, T.cl_Instance, T.na_flows, insF_flows _ _, fl, _, rfl, SqL.of (by rw [h2, nv_ints]), ?_⟩
    refine ⟨_, rfl, x, C, dx, _, _, rfl, h1, T.cl_Instance, T.na_flows, insF_flows _ _, fl, rfl, ⟨_, SqL.of h2⟩, fun D hD => ?_⟩
    refine lc_list (K := K) (a := fl) (xs := nv pl.curve) (fun i H' => H' D = some (.lst (nv ((pl.curve.take i).map fun x => x - g))) ∧ Same H H') ⟨upd_same, same_upd (Same.refl _) hD⟩ (fun i H' _ q => SqL.of (q.2 _ _ h2)) (fun i y H' hi q => ?_) (fun H' q => ?_)
    · obtain ⟨n, hn, rfl⟩ := nv_get hi
      obtain ⟨q1, q2⟩ := q
      have len : ((pl.curve.take i).map fun x => x - g).length ≤ 16 := by
        rw [List.length_map, List.length_take]
        have := (good_len gd).2
        omega
      refine ⟨rfl, _, rfl, _, rfl, _, _, rfl, rfl, _, _, rfl, _, q1, small1000 (by rw [nv_len]; omega), ?_, fun b o e => ?_⟩
      · rw [upd_same, take_succ hn, List.map_append, nv_app]
        congr 3
        show [V.int (if (n : Int) - (g : Int) > 0 then (n : Int) - (g : Int) else 0)] = [V.int ((n - g : Nat) : Int)]
        congr 2
        split <;> omega
      · rw [upd_ne (ne_of_none e hD)]
        exact q2 b o e
    · obtain ⟨q1, q2⟩ := q
      rw [nv_len, List.take_length] at q1
      refine ⟨_, rfl, x, C, dx, _, rfl, q2 _ _ h1, T.cl_Instance, T.na_flows, two1000, ?_⟩
      have i2 := Ins.flows (q2 _ _ h1) q1 (q2 _ _ h3) (new_ne had hD) n2
      have ⟨dx2, fl2, sl2, k1, k2, k3, p1, p2⟩ := i2
      refine ⟨_, rfl, _, rfl, x, C, dx2, _, _, rfl, k1, T.cl_Instance, T.na_flows, insF_flows _ _, fl2, _, rfl, SqL.of (by rw [k2, nv_ints]), _, _, rfl, rfl, by show 1 ≤ sizeLine; decide, fun p hp => ?_⟩
      refine d _ p (((But.of q2).put).same (same_upd (Same.refl _) hp)) ?_ (new_ne (((But.of q2).put) _ _ had hax) hp) (upd_same.trans ?_)
      · have G2 := KM.good_step (s := some pl) gd 3 [g]
        rw [KM.op3_ok] at G2 ⊢
        exact ⟨i2.same (same_upd (Same.refl _) hp), G2⟩
      · rw [KM.op3_ok, sum_cast, sum_cast]
        show some (HO.lst [V.int (((Kqk2.sum pl.curve : Nat) : Int) - ((Kqk2.sum (pl.curve.map fun x => x - g) : Nat) : Int))]) = some (HO.lst [V.int _])
        rw [Int.natCast_sub]
        exact sum_sub_le g pl.curve
where
  sum_sub_le (g : Nat) : ∀ l : List Nat, Kqk2.sum (l.map fun x => x - g) ≤ Kqk2.sum l
    | [] => Nat.le_refl _
    | x :: r => by
      have := sum_sub_le g r
      rw [KM.sum_eq, KM.sum_eq] at this ⊢
      rw [List.map_cons, List.sum_cons, List.sum_cons]
      omega
/-! ## 4 total_flow -/
abbrev s_total_flow : Stmt := top 29
theorem sc_total_flow : FnScope ["instance", "numbers"] ["instance", "numbers"] (defScope s_total_flow) := ⟨rfl, rfl, rfl, by decide +kernel, rfl, by decide +kernel, by decide +kernel⟩
theorem ok_total_flow {f : Addr} {fd : FuncData} (F : Fun K "total_flow" "total_flow" s_total_flow f fd) (T : Txt K mg C aLC aNC aOP) :
    FnOk P w K mg base CX0 1 f fd ["instance", "numbers"] (spOp C 4) := by
  refine F.ok sc_total_flow (fun vs H Q E h => ?_) (fun cdv A outer s H vs Q E hr h => ⟨_, (pss_one (ps_ret (pe_lst (pa_cons (pe_callB (cr_sum rfl) (by rfl) T.n_sum (by decide +kernel) (pa_cons (pe_fld (pv 0) rfl) pa_nil)) pa_nil)))), ?_⟩)
  · obtain ⟨x, b, ad, s, xs, rfl, _⟩ := h
    rfl
  · obtain ⟨x, b, ad, st, xs, rfl, sa, ⟨ys, had⟩, hb, hn, hx, d⟩ := h
    obtain ⟨pl, rfl⟩ := some_of hn (by decide)
    obtain rfl := zero_of (cnt_of hx)
    have ⟨⟨dx, fl, sl, h1, h2, h3, n1, n2⟩, gd⟩ := sa
    have hax : ad ≠ x := ne_of had h1 (by intro z; cases z)
    have cv0 : cv (some pl) = pl.curve := rfl
    rw [cv0] at h2
    refine ⟨_, rfl, x, C, dx, _, _, rfl, h1, T.cl_Instance, T.na_flows, insF_flows _ _, fl, _, rfl, SqL.of (by rw [h2, nv_ints]), by show 1 ≤ sizeLine; decide, fun p hp => ?_⟩
    exact d.stay sa (same_upd (Same.refl H) hp) (by rw [KM.op4_ok]) ⟨_, had⟩ hp upd_same (by rw [KM.op4_ok, sum_cast]; rfl)
/-! ## 5 flow_at -/
abbrev s_flow_at : Stmt := top 30
theorem sc_flow_at : FnScope ["instance", "numbers", "grade"] ["instance", "numbers"] (defScope s_flow_at) := ⟨rfl, rfl, rfl, by decide +kernel, rfl, by decide +kernel, by decide +kernel⟩
theorem ok_flow_at {f : Addr} {fd : FuncData} (F : Fun K "flow_at" "flow_at" s_flow_at f fd) (T : Txt K mg C aLC aNC aOP)
    (M_Instance_has_grade : MethN P w K mg base 1 C "has_grade" ["self", "grade"] (spHasGrade C)) :
    FnOk P w K mg base CX0 2 f fd ["instance", "numbers"] (spOp C 5) := by
  refine F.ok sc_flow_at (fun vs H Q E h => ?_) (fun cdv A outer s H vs Q E hr h => ⟨_, (pss_cons (ps_set (i := 2) sc_flow_at.nd rfl (Or.inl rfl) (pe_ix ix_list (pv 1) pe_int (fun _ _ => rfl)))
 (pss_cons (ps_if (pt_not (pt_val (pe_mt M_Instance_has_grade T.cl_Instance (hr.mono (by decide)) (pv 0) (pa_cons (pv 2) pa_nil)))) (pss_one (ps_ret (pe_lst (pa_cons (pe_const (by rfl) T.c_NOT_THERE) pa_nil)))) pss_nil)
 (pss_one (ps_ret (pe_lst (pa_cons (pe_ix ix_list (pe_fld (pv 0) rfl) (pe_op op_sub (pv 2) pe_int) (fun _ _ => rfl)) pa_nil)))))), ?_⟩)
  · obtain ⟨x, b, ad, s, xs, rfl, _⟩ := h
    rfl
  · obtain ⟨x, b, ad, st, xs, rfl, sa, ⟨ys, had⟩, hb, hn, hx, d⟩ := h
    obtain ⟨pl, rfl⟩ := some_of hn (by decide)
    obtain ⟨g, rfl⟩ := one_of (cnt_of hx)
    have ⟨⟨dx, fl, sl, h1, h2, h3, n1, n2⟩, gd⟩ := sa
    have hax : ad ≠ x := ne_of had h1 (by intro z; cases z)
    refine ⟨_, rfl, b, _, _, _, rfl, rfl, SqL.of hb, atI_of (j := 0) rfl rfl, ?_⟩
    refine ⟨_, rfl, x, dx, _, rfl, h1, insF_no _ _, _, rfl, x, ad, g, _, _, rfl, sa.ins, _, rfl, ?_⟩
    by_cases hg : 1 ≤ g ∧ g ≤ pl.curve.length
    · refine if_false_of (by rw [show cv (some pl) = pl.curve from rfl, decide_eq_true hg]; rfl) ?_
      have cg := flow_get (c := pl.curve) hg.1 hg.2
      refine ⟨_, rfl, x, C, dx, _, _, rfl, h1, T.cl_Instance, T.na_flows, insF_flows _ _, _, rfl, _, _, rfl, rfl, fl, _, _, _, rfl, rfl, SqL.of h2, atI_of (j := g - 1) (by omega) (nv_at cg), by show 1 ≤ sizeLine; decide, fun p hp => ?_⟩
      exact d.stay sa (same_upd (Same.refl H) hp) (by rw [KM.op5_ok hg]) ⟨_, had⟩ hp upd_same (by rw [KM.op5_ok hg]; rfl)
    · refine if_true_of (by rw [show cv (some pl) = pl.curve from rfl, decide_eq_false hg]; rfl) ?_
      refine ⟨by show 1 ≤ sizeLine; decide, fun p hp => ?_⟩
      exact d.stay sa (same_upd (Same.refl H) hp) (by rw [KM.op5_no hg]) ⟨_, had⟩ hp upd_same (by rw [KM.op5_no hg]; rfl)
/-! ## 6 set_stages -/
abbrev s_set_stages : Stmt := top 31
theorem sc_set_stages : FnScope ["instance", "numbers"] ["instance", "numbers"] (defScope s_set_stages) := ⟨rfl, rfl, rfl, by decide +kernel, rfl, by decide +kernel, by decide +kernel⟩
theorem ok_set_stages {f : Addr} {fd : FuncData} (F : Fun K "set_stages" "set_stages" s_set_stages f fd) (T : Txt K mg C aLC aNC aOP)
    (G_are_stages : DefN P w K mg base 1 "are_stages" ["grades", "grade_count"] (spAre K)) (M_Instance_stages_power : MethN P w K mg base 2 C "stages_power" ["self"] (spSPow C)) :
    FnOk P w K mg base CX0 3 f fd ["instance", "numbers"] (spOp C 6) := by
  refine F.ok sc_set_stages (fun vs H Q E h => ?_) (fun cdv A outer s H vs Q E hr h => ⟨_, (pss_cons (ps_if (pt_not (pt_val (pe_fn G_are_stages (hr.mono (by decide)) (by rfl) (pa_cons (pv 1) (pa_cons (pe_callB call_len_seq (by rfl) T.n_len (by decide +kernel) (pa_cons (pe_fld (pv 0) rfl) pa_nil)) pa_nil))))) (pss_one (ps_ret (pe_lst (pa_cons (pe_const (by rfl) T.c_OUT_OF_RANGE) pa_nil)))) pss_nil)
 (pss_cons (ps_fld (pv 0) (pe_callTy call_list_of (by rfl) T.n_list (by decide +kernel) (pa_cons (pv 1) pa_nil)) rfl)
 (pss_one (ps_ret (pe_lst (pa_cons (pe_mt0 M_Instance_stages_power T.cl_Instance (hr.mono (by decide)) (pv 0)) pa_nil)))))), ?_⟩)
  · obtain ⟨x, b, ad, s, xs, rfl, _⟩ := h
    rfl
  · obtain ⟨x, b, ad, st, xs, rfl, sa, ⟨ys, had⟩, hb, hn, hx, d⟩ := h
    obtain ⟨pl, rfl⟩ := some_of hn (by decide)
    have ⟨⟨dx, fl, sl, h1, h2, h3, n1, n2⟩, gd⟩ := sa
    have hax : ad ≠ x := ne_of had h1 (by intro z; cases z)
    have cv0 : cv (some pl) = pl.curve := rfl
    rw [cv0] at h2
    refine ⟨_, rfl, _, rfl, x, C, dx, _, _, rfl, h1, T.cl_Instance, T.na_flows, insF_flows _ _, fl, _, rfl, .inl (SqL.of h2), b, xs, pl.curve, by rw [nv_len]; rfl, SqL.of hb, _, rfl, ?_⟩
    cases e : Kqk2.areStages pl.curve xs with
    | false =>
      refine if_true_of rfl ?_
      refine ⟨by show 1 ≤ sizeLine; decide, fun p hp => ?_⟩
      exact d.stay sa (same_upd (Same.refl H) hp) (by rw [KM.op6_bad e]) ⟨_, had⟩ hp upd_same (by rw [KM.op6_bad e]; rfl)
    | true =>
      refine if_false_of rfl ?_
      refine ⟨_, rfl, b, _, rfl, .inl (SqL.of hb), fun l nl => ⟨_, rfl, x, C, dx, _, rfl, keep_upd h1 nl, T.cl_Instance, T.na_stages, two1000, ?_⟩⟩
      have i1 := Ins.stages (s := xs) (keep_upd h1 nl) upd_same (keep_upd h2 nl) n1 (new_ne had nl)
      have ⟨dx1, fl1, sl1, g1, g2, g3, m1, m2⟩ := i1
      refine ⟨_, rfl, x, dx1, _, rfl, g1, insF_no _ _, x, ad, pl.curve, xs, rfl, i1, (good_len gd).2, KM.asc_areStages.mp e, by show 1 ≤ sizeLine; decide, fun p hp => ?_⟩
      refine d _ p (((But.of (same_upd (Same.refl H) nl)).put).same (same_upd (Same.refl _) hp)) ?_ (new_ne (((But.of (same_upd (Same.refl H) nl)).put) _ _ had hax) hp) (upd_same.trans ?_)
      · have G2 := KM.good_step (s := some pl) gd 6 xs
        rw [KM.op6_ok e] at G2 ⊢
        exact ⟨i1.same (same_upd (Same.refl _) hp), G2⟩
      · rw [KM.op6_ok e]
        rfl
/-! ## 7 power -/
abbrev s_power : Stmt := top 32
theorem sc_power : FnScope ["instance", "numbers"] ["instance", "numbers"] (defScope s_power) := ⟨rfl, rfl, rfl, by decide +kernel, rfl, by decide +kernel, by decide +kernel⟩
theorem ok_power {f : Addr} {fd : FuncData} (F : Fun K "power" "power" s_power f fd) (T : Txt K mg C aLC aNC aOP) (M_Instance_stages_power : MethN P w K mg base 2 C "stages_power" ["self"] (spSPow C)) :
    FnOk P w K mg base CX0 3 f fd ["instance", "numbers"] (spOp C 7) := by
  refine F.ok sc_power (fun vs H Q E h => ?_) (fun cdv A outer s H vs Q E hr h => ⟨_, (pss_one (ps_ret (pe_lst (pa_cons (pe_mt0 M_Instance_stages_power T.cl_Instance (hr.mono (by decide)) (pv 0)) pa_nil)))), ?_⟩)
  · obtain ⟨x, b, ad, s, xs, rfl, _⟩ := h
    rfl
  · obtain ⟨x, b, ad, st, xs, rfl, sa, ⟨ys, had⟩, hb, hn, hx, d⟩ := h
    obtain ⟨pl, rfl⟩ := some_of hn (by decide)
    obtain rfl := zero_of (cnt_of hx)
    have ⟨⟨dx, fl, sl, h1, h2, h3, n1, n2⟩, gd⟩ := sa
    have hax : ad ≠ x := ne_of had h1 (by intro z; cases z)
    refine ⟨_, rfl, x, dx, _, rfl, h1, insF_no _ _, x, ad, pl.curve, pl.stages, rfl, sa.ins, (good_len gd).2, good_asc gd, by show 1 ≤ sizeLine; decide, fun p hp => ?_⟩
    exact d.stay sa (same_upd (Same.refl H) hp) (by rw [KM.op7_ok]) ⟨_, had⟩ hp upd_same (by rw [KM.op7_ok]; rfl)
/-! ## 8 power_of -/
abbrev s_power_of : Stmt := top 33
theorem sc_power_of : FnScope ["instance", "numbers"] ["instance", "numbers"] (defScope s_power_of) := ⟨rfl, rfl, rfl, by decide +kernel, rfl, by decide +kernel, by decide +kernel⟩
theorem ok_power_of {f : Addr} {fd : FuncData} (F : Fun K "power_of" "power_of" s_power_of f fd) (T : Txt K mg C aLC aNC aOP)
    (G_are_stages : DefN P w K mg base 1 "are_stages" ["grades", "grade_count"] (spAre K)) (G_power_over : DefN P w K mg base 1 "power_over" ["flows", "grades"] (spPower K)) :
    FnOk P w K mg base CX0 2 f fd ["instance", "numbers"] (spOp C 8) := by
  refine F.ok sc_power_of (fun vs H Q E h => ?_) (fun cdv A outer s H vs Q E hr h => ⟨_, (pss_cons (ps_if (pt_not (pt_val (pe_fn G_are_stages (hr.mono (by decide)) (by rfl) (pa_cons (pv 1) (pa_cons (pe_callB call_len_seq (by rfl) T.n_len (by decide +kernel) (pa_cons (pe_fld (pv 0) rfl) pa_nil)) pa_nil))))) (pss_one (ps_ret (pe_lst (pa_cons (pe_const (by rfl) T.c_OUT_OF_RANGE) pa_nil)))) pss_nil)
 (pss_one (ps_ret (pe_lst (pa_cons (pe_fn G_power_over (hr.mono (by decide)) (by rfl) (pa_cons (pe_fld (pv 0) rfl) (pa_cons (pv 1) pa_nil))) pa_nil))))), ?_⟩)
  · obtain ⟨x, b, ad, s, xs, rfl, _⟩ := h
    rfl
  · obtain ⟨x, b, ad, st, xs, rfl, sa, ⟨ys, had⟩, hb, hn, hx, d⟩ := h
    obtain ⟨pl, rfl⟩ := some_of hn (by decide)
    have ⟨⟨dx, fl, sl, h1, h2, h3, n1, n2⟩, gd⟩ := sa
    have hax : ad ≠ x := ne_of had h1 (by intro z; cases z)
    have cv0 : cv (some pl) = pl.curve := rfl
    rw [cv0] at h2
    refine ⟨_, rfl, _, rfl, x, C, dx, _, _, rfl, h1, T.cl_Instance, T.na_flows, insF_flows _ _, fl, _, rfl, .inl (SqL.of h2), b, xs, pl.curve, by rw [nv_len]; rfl, SqL.of hb, _, rfl, ?_⟩
    cases e : Kqk2.areStages pl.curve xs with
    | false =>
      refine if_true_of rfl ?_
      refine ⟨by show 1 ≤ sizeLine; decide, fun p hp => ?_⟩
      exact d.stay sa (same_upd (Same.refl H) hp) (by rw [KM.op8_bad e]) ⟨_, had⟩ hp upd_same (by rw [KM.op8_bad e]; rfl)
    | true =>
      refine if_false_of rfl ?_
      refine ⟨_, rfl, x, C, dx, _, _, rfl, h1, T.cl_Instance, T.na_flows, insF_flows _ _, _, rfl, fl, b, pl.curve, xs, rfl, SqL.of h2, SqL.of hb, (good_len gd).2, KM.asc_areStages.mp e, by show 1 ≤ sizeLine; decide, fun p hp => ?_⟩
      exact d.stay sa (same_upd (Same.refl H) hp) (by rw [KM.op8_ok e]) ⟨_, had⟩ hp upd_same (by rw [KM.op8_ok e]; rfl)
/-! ## 9 best_stages -/
abbrev s_best_stages : Stmt := top 34
theorem sc_best_stages : FnScope ["instance", "numbers", "count"] ["instance", "numbers"] (defScope s_best_stages) := ⟨rfl, rfl, rfl, by decide +kernel, rfl, by decide +kernel, by decide +kernel⟩
theorem ok_best_stages {f : Addr} {fd : FuncData} (F : Fun K "best_stages" "best_stages" s_best_stages f fd) (T : Txt K mg C aLC aNC aOP)
    (M_Instance_allows_count : MethN P w K mg base 1 C "allows_count" ["self", "count"] (spAllows C)) (G_best_stages_over : DefN P w K mg base 2 "best_stages_over" ["flows", "count"] (spBest K)) :
    FnOk P w K mg base CX0 3 f fd ["instance", "numbers"] (spOp C 9) := by
  refine F.ok sc_best_stages (fun vs H Q E h => ?_) (fun cdv A outer s H vs Q E hr h => ⟨_, (pss_cons (ps_set (i := 2) sc_best_stages.nd rfl (Or.inl rfl) (pe_ix ix_list (pv 1) pe_int (fun _ _ => rfl)))
 (pss_cons (ps_if (pt_not (pt_val (pe_mt M_Instance_allows_count T.cl_Instance (hr.mono (by decide)) (pv 0) (pa_cons (pv 2) pa_nil)))) (pss_one (ps_ret (pe_lst (pa_cons (pe_const (by rfl) T.c_OUT_OF_RANGE) pa_nil)))) pss_nil)
 (pss_one (ps_ret (pe_fn G_best_stages_over (hr.mono (by decide)) (by rfl) (pa_cons (pe_fld (pv 0) rfl) (pa_cons (pv 2) pa_nil))))))), ?_⟩)
  · obtain ⟨x, b, ad, s, xs, rfl, _⟩ := h
    rfl
  · obtain ⟨x, b, ad, st, xs, rfl, sa, ⟨ys, had⟩, hb, hn, hx, d⟩ := h
    obtain ⟨pl, rfl⟩ := some_of hn (by decide)
    obtain ⟨k, rfl⟩ := one_of (cnt_of hx)
    have ⟨⟨dx, fl, sl, h1, h2, h3, n1, n2⟩, gd⟩ := sa
    have hax : ad ≠ x := ne_of had h1 (by intro z; cases z)
    refine ⟨_, rfl, b, _, _, _, rfl, rfl, SqL.of hb, atI_of (j := 0) rfl rfl, ?_⟩
    refine ⟨_, rfl, x, dx, _, rfl, h1, insF_no _ _, _, rfl, x, ad, k, _, _, rfl, sa.ins, _, rfl, ?_⟩
    by_cases hg : k ≤ 5 ∧ k ≤ pl.curve.length
    · refine if_false_of (by rw [show cv (some pl) = pl.curve from rfl, decide_eq_true hg]; rfl) ?_
      refine ⟨_, rfl, x, C, dx, _, _, rfl, h1, T.cl_Instance, T.na_flows, insF_flows _ _, _, rfl, fl, pl.curve, k, rfl, SqL.of h2, (good_len gd).2, good_max gd, hg.2, fun H' p sm np hp => ?_⟩
      refine d.stay sa sm (by rw [KM.op9_ok hg]) ⟨_, had⟩ np hp ?_
      rw [KM.op9_ok hg, KM.bestStages_some hg.2]
      exact nv_ints _
    · refine if_true_of (by rw [show cv (some pl) = pl.curve from rfl, decide_eq_false hg]; rfl) ?_
      refine ⟨by show 1 ≤ sizeLine; decide, fun p hp => ?_⟩
      exact d.stay sa (same_upd (Same.refl H) hp) (by rw [KM.op9_bad hg]) ⟨_, had⟩ hp upd_same (by rw [KM.op9_bad hg]; rfl)
end
end FG
namespace FG
open PySem PySem.Spec PyProof.Rows L2
theorem cut_from (l : List Nat) (i : Nat) : cutV (nv l) (some ((i : Int) + 1)) none = nv (l.drop (i + 1)) := by
  unfold cutV HT.sIx
  dsimp only
  rw [nv_len, if_neg (by omega), show ((i : Int) + 1).toNat = i + 1 by omega]
  by_cases h : i + 1 ≤ l.length
  · rw [Nat.min_eq_left h, List.take_of_length_le (by rw [List.length_drop, nv_len]; exact Nat.le_refl _)]
    exact (List.map_drop ..).symm
  · rw [Nat.min_eq_right (by omega), List.drop_of_length_le (by rw [nv_len]; exact Nat.le_refl _), List.drop_of_length_le (by omega), List.take_nil]
    rfl
theorem set_cut {s : List Nat} {i g : Nat} (h : i < s.length) : (nv (s.take i) ++ [V.int (g : Nat)]) ++ nv (s.drop (i + 1)) = nv (s.set i g) := by
  rw [List.set_eq_take_append_cons_drop, if_pos h, nv_app]
  rw [List.append_assoc]
  rfl
theorem nv_getD {s : List Nat} {i : Nat} (h : i < s.length) : (nv s)[i]? = some (V.int (s.getD i 0 : Nat)) := by
  refine nv_at ?_
  rw [List.getD_eq_getElem?_getD, List.getElem?_eq_getElem h]
  rfl
section
variable {P : Program} {w : World} {K : PySem.W.Frag} {mg : Str → Option Value} {base : Heap} {C aLC aNC aOP : Addr}
/-! ## best_power_over -/
abbrev s_best_power_over : Stmt := top 8
theorem sc_best_power_over : FnScope ["flows", "count"] ["flows", "count"] (defScope s_best_power_over) := ⟨rfl, rfl, rfl, by decide +kernel, rfl, by decide +kernel, by decide +kernel⟩
def spBP (K : PySem.W.Frag) : Sp := fun vs H Q _ => ∃ (a : Addr) (c : List Nat) (k : Nat), vs = [.ref a, .int (k : Nat)] ∧ SqL K H a (nv c) ∧ c.length ≤ 16 ∧ (∀ x ∈ c, x ≤ 1000) ∧ k ≤ c.length ∧
  ∀ H', Same H H' → Q (.int ((Kqk2.bestStages c k).1 : Nat)) H'
theorem ok_best_power_over {f : Addr} {fd : FuncData} (F : Fun K "best_power_over" "best_power_over" s_best_power_over f fd)
    (G_best_stages_over : DefN P w K mg base 2 "best_stages_over" ["flows", "count"] (spBest K)) : FnOk P w K mg base CX0 3 f fd ["flows", "count"] (spBP K) := by
  refine F.ok sc_best_power_over (fun vs H Q E h => ?_) (fun cdv A outer s H vs Q E hr h => ⟨_, (pss_one (ps_ret (pe_ix ix_list (pe_fn G_best_stages_over (hr.mono (by decide)) (by rfl) (pa_cons (pv 0) (pa_cons (pv 1) pa_nil))) pe_int (fun _ _ => rfl)))), ?_⟩)
  · obtain ⟨a, c, k, rfl, _⟩ := h
    rfl
  · obtain ⟨a, c, k, rfl, hc, hlen, hmax, hk, q⟩ := h
    refine ⟨_, rfl, _, rfl, a, c, k, rfl, hc, hlen, hmax, hk, fun H' p sm np hp => ?_⟩
    rw [KM.bestStages_some hk] at hp
    exact ⟨p, _, _, _, rfl, rfl, SqL.of hp, atI_of (j := 0) rfl rfl, q H' sm⟩
/-! ## stage_set_count -/
abbrev s_stage_set_count : Stmt := top 9
theorem sc_stage_set_count : FnScope ["grade_count", "count", "number", "chosen"] ["grade_count", "count"] (defScope s_stage_set_count) := ⟨rfl, rfl, rfl, by decide +kernel, rfl, by decide +kernel, by decide +kernel⟩
def spCh : Sp := fun vs H Q _ => ∃ (n k : Nat), vs = [.int (n : Nat), .int (k : Nat)] ∧ k ≤ n ∧ n ≤ 16 ∧ Q (.int (KM.ch n k : Nat)) H
theorem ch_turn {n i : Nat} (h : i < n) : ((KM.ch n i : Int) * ((n : Int) - (0 + (i : Int)))).fdiv (0 + (i : Int) + 1) = (KM.ch n (i + 1) : Nat) := by
  rw [show (KM.ch n i : Int) * ((n : Int) - (0 + (i : Int))) = ((KM.ch n i * (n - i) : Nat) : Int) by
    rw [Int.natCast_mul, Int.natCast_sub (by omega), Int.zero_add]]
  rw [show (0 + (i : Int) + 1) = ((i + 1 : Nat) : Int) by omega]
  rw [← Int.ofNat_fdiv, KM.ch_div]
theorem ok_stage_set_count {f : Addr} {fd : FuncData} (F : Fun K "stage_set_count" "stage_set_count" s_stage_set_count f fd) (T : Txt K mg C aLC aNC aOP) : FnOk P w K mg base CX0 1 f fd ["grade_count", "count"] spCh := by
  refine F.ok sc_stage_set_count (fun vs H Q E h => ?_) (fun cdv A outer s H vs Q E hr h => ⟨_, (pss_cons (ps_set (i := 2) sc_stage_set_count.nd rfl (Or.inl rfl) pe_int)
 (pss_cons (ps_for PassesOwn.never rfl (pi_range1 rfl T.n_range (pa_cons (pv 1) pa_nil)) (pg_name (i := 3) sc_stage_set_count.nd rfl (Or.inl rfl)) (pss_one (ps_set (i := 2) sc_stage_set_count.nd rfl (Or.inl rfl) (pe_op op_fdivN (pe_op op_mul (pv 2) (pe_op op_sub (pv 0) (pv 3))) (pe_op op_add (pv 3) pe_int)))))
 (pss_one (ps_ret (pv 2))))), ?_⟩)
  · obtain ⟨n, k, rfl, _⟩ := h
    rfl
  · obtain ⟨n, k, rfl, hk, hn, q⟩ := h
    refine ⟨_, rfl, _, rfl, by omega, by omega, ?_⟩
    refine for_range (lo := 0) (fun i σ H' => ∃ u : Option V, σ = [some (.int (n : Nat)), some (.int (k : Nat)), some (.int (KM.ch n i : Nat)), u] ∧ H' = H) ⟨none, by rw [KM.ch_zero]; rfl, rfl⟩ ?_ ?_
    · rintro i σ H' hi ⟨u, rfl, rfl⟩
      rw [Int.toNat_natCast] at hi
      refine ⟨_, rfl, _, rfl, _, rfl, _, _, rfl, rfl, _, _, rfl, rfl, .inr ⟨by omega, by omega⟩, _, rfl, _, _, rfl, rfl, _, _, rfl, rfl, ⟨by omega, by omega⟩, ?_⟩
      refine ⟨some (.int (0 + (i : Int))), ?_, rfl⟩
      rw [← ch_turn (by omega)]
      rfl
    · rintro σ H' ⟨u, rfl, rfl⟩
      rw [Int.toNat_natCast]
      exact ⟨_, rfl, q⟩
/-! ## best_count_over -/
abbrev s_best_count_over : Stmt := top 10
theorem sc_best_count_over : FnScope ["flows", "stage_cost", "best_count", "best_power", "count", "power"] ["flows", "stage_cost"] (defScope s_best_count_over) := ⟨rfl, rfl, rfl, by decide +kernel, rfl, by decide +kernel, by decide +kernel⟩
def spBC (K : PySem.W.Frag) : Sp := fun vs H Q _ => ∃ (a : Addr) (c : List Nat) (cost : Nat), vs = [.ref a, .int (cost : Nat)] ∧ SqL K H a (nv c) ∧ c.length ≤ 16 ∧ (∀ x ∈ c, x ≤ 1000) ∧
  ∀ H' p, Same H H' → H p = none → H' p = some (.lst (nv [Kqk2.bestStageCount c cost, (Kqk2.bestStages c (Kqk2.bestStageCount c cost)).1])) → Q (.ref p) H'
theorem ok_best_count_over {f : Addr} {fd : FuncData} (F : Fun K "best_count_over" "best_count_over" s_best_count_over f fd) (T : Txt K mg C aLC aNC aOP)
    (G_best_power_over : DefN P w K mg base 3 "best_power_over" ["flows", "count"] (spBP K)) : FnOk P w K mg base CX0 4 f fd ["flows", "stage_cost"] (spBC K) := by
  refine F.ok sc_best_count_over (fun vs H Q E h => ?_) (fun cdv A outer s H vs Q E hr h => ⟨_, (pss_cons (ps_set (i := 2) sc_best_count_over.nd rfl (Or.inl rfl) pe_int)
 (pss_cons (ps_set (i := 3) sc_best_count_over.nd rfl (Or.inl rfl) pe_int)
 (pss_cons (ps_for PassesOwn.never rfl (pi_range2 (by rfl) T.n_range (pa_cons pe_int (pa_cons (pe_op op_add (pe_callB call_len_seq (by rfl) T.n_len (by decide +kernel) (pa_cons (pv 0) pa_nil)) pe_int) pa_nil))) (pg_name (i := 4) sc_best_count_over.nd rfl (Or.inl rfl)) (pss_cons (ps_set (i := 5) sc_best_count_over.nd rfl (Or.inl rfl) (pe_fn G_best_power_over (hr.mono (by decide)) (by rfl) (pa_cons (pv 0) (pa_cons (pv 4) pa_nil))))
 (pss_one (ps_if (pt_cmpR op_gt (pe_op op_sub (pv 5) (pe_op op_mul (pv 1) (pv 4))) (pe_op op_sub (pv 3) (pe_op op_mul (pv 1) (pv 2))) (nomark _)) (pss_cons (ps_set (i := 2) sc_best_count_over.nd rfl (Or.inl rfl) (pv 4))
 (pss_one (ps_set (i := 3) sc_best_count_over.nd rfl (Or.inl rfl) (pv 5)))) pss_nil))))
 (pss_one (ps_ret (pe_lst (pa_cons (pv 2) (pa_cons (pv 3) pa_nil)))))))), ?_⟩)
  · obtain ⟨a, c, cost, rfl, _⟩ := h
    rfl
  · obtain ⟨a, c, cost, rfl, hc, hlen, hmax, q⟩ := h
    refine ⟨_, rfl, a, _, rfl, .inl hc, _, _, rfl, rfl, _, _, rfl, ⟨by omega, by omega, by rw [nv_len]; omega, by rw [nv_len]; omega⟩, ?_⟩
    refine for_range (lo := 1) (fun i σ H' => ∃ (u v : Option V), σ = [some (.ref a), some (.int (cost : Nat)), some (.int (KM.bcUpTo c cost (i + 1) : Nat)), some (.int ((Kqk2.bestStages c (KM.bcUpTo c cost (i + 1))).1 : Nat)), u, v] ∧ Same H H')
      ⟨none, none, by rw [KM.bc_one, KM.best_none0]; rfl, Same.refl H⟩ ?_ ?_
    · rintro i σ H' hi ⟨u, v, rfl, sm⟩
      rw [nv_len] at hi
      have hi2 : i + 1 ≤ c.length := by omega
      have lt := KM.bc_lt c cost i
      have e1 : (1 + (i : Int)) = ((i + 1 : Nat) : Int) := by omega
      refine ⟨_, rfl, _, rfl, a, c, i + 1, ?_, sm.seq hc, hlen, hmax, hi2, fun H2 s2 => ?_⟩
      · rw [← e1]
        rfl
      refine ⟨_, rfl, _, rfl, _, rfl, _, _, rfl, rfl, .inr ⟨by omega, by omega⟩, _, _, rfl, rfl, _, rfl, _, rfl, _, rfl, _, _, rfl, rfl, .inr ⟨by omega, by omega⟩, _, _, rfl, rfl, _, _, rfl, rfl, _, rfl, ?_⟩
      have test := KM.bc_test ((Kqk2.bestStages c (KM.bcUpTo c cost (i + 1))).1) ((Kqk2.bestStages c (i + 1)).1) (KM.bcUpTo c cost (i + 1)) (i + 1) cost
      have sc := KM.bc_succ c cost (i + 1)
      by_cases h : (Kqk2.bestStages c (KM.bcUpTo c cost (i + 1))).1 + cost * (i + 1) < (Kqk2.bestStages c (i + 1)).1 + cost * KM.bcUpTo c cost (i + 1)
      · rw [if_pos h] at sc
        refine if_true_of (decide_eq_true (by rw [e1]; exact test.mp h)) ?_
        refine ⟨_, rfl, _, rfl, some (.int (1 + (i : Int))), some (.int ((Kqk2.bestStages c (i + 1)).1 : Nat)), ?_, sm.trans s2⟩
        rw [sc, ← e1]
        rfl
      · rw [if_neg h] at sc
        refine if_false_of (decide_eq_false (by rw [e1]; exact fun z => h (test.mpr z))) ?_
        refine ⟨some (.int (1 + (i : Int))), some (.int ((Kqk2.bestStages c (i + 1)).1 : Nat)), ?_, sm.trans s2⟩
        rw [sc]
        rfl
    · rintro σ H' ⟨u, v, rfl, sm⟩
      rw [nv_len, show ((c.length : Int) + 1 - 1).toNat + 1 = c.length + 1 by omega, ← KM.bc_eq]
      exact ⟨_, rfl, _, rfl, by show 2 ≤ sizeLine; decide, fun p hp => q _ p (same_upd sm hp) (sm.free hp) upd_same⟩
end
end FG
namespace FG
open PySem PySem.Spec PyProof.Rows L2
theorem nv_flat : ∀ l : List Nat, (nv l).all flatV = true
  | [] => rfl
  | _ :: r => nv_flat r
theorem inV_nv (g : Nat) : ∀ l : List Nat, inV (.int (g : Nat)) (nv l) = decide (g ∈ l)
  | [] => rfl
  | x :: r => by
    show ((x : Int) == (g : Int) || inV (.int (g : Nat)) (nv r)) = _
    rw [inV_nv g r, Bool.eq_iff_iff]
    simp only [Bool.or_eq_true, beq_iff_eq, decide_eq_true_eq, List.mem_cons]
    rw [show ((x : Int) = (g : Int)) ↔ g = x by omega]
section
variable {P : Program} {w : World} {K : PySem.W.Frag} {mg : Str → Option Value} {base : Heap} {C aLC aNC aOP : Addr}
/-! ## 10 apply_best_stages -/
abbrev s_apply_best_stages : Stmt := top 35
theorem sc_apply_best_stages : FnScope ["instance", "numbers", "count"] ["instance", "numbers"] (defScope s_apply_best_stages) := ⟨rfl, rfl, rfl, by decide +kernel, rfl, by decide +kernel, by decide +kernel⟩
theorem ok_apply_best_stages {f : Addr} {fd : FuncData} (F : Fun K "apply_best_stages" "apply_best_stages" s_apply_best_stages f fd) (T : Txt K mg C aLC aNC aOP)
    (M_Instance_allows_count : MethN P w K mg base 1 C "allows_count" ["self", "count"] (spAllows C)) (G_best_stages_over : DefN P w K mg base 2 "best_stages_over" ["flows", "count"] (spBest K))
    (M_Instance_stages_power : MethN P w K mg base 2 C "stages_power" ["self"] (spSPow C)) :
    FnOk P w K mg base CX0 3 f fd ["instance", "numbers"] (spOp C 10) := by
  refine F.ok sc_apply_best_stages (fun vs H Q E h => ?_) (fun cdv A outer s H vs Q E hr h => ⟨_, (pss_cons (ps_set (i := 2) sc_apply_best_stages.nd rfl (Or.inl rfl) (pe_ix ix_list (pv 1) pe_int (fun _ _ => rfl)))
 (pss_cons (ps_if (pt_not (pt_val (pe_mt M_Instance_allows_count T.cl_Instance (hr.mono (by decide)) (pv 0) (pa_cons (pv 2) pa_nil)))) (pss_one (ps_ret (pe_lst (pa_cons (pe_const (by rfl) T.c_OUT_OF_RANGE) pa_nil)))) pss_nil)
 (pss_cons (ps_fld (pv 0) (pe_slice sl_list (pe_fn G_best_stages_over (hr.mono (by decide)) (by rfl) (pa_cons (pe_fld (pv 0) rfl) (pa_cons (pv 2) pa_nil))) (po_some pe_int) po_none) rfl)
 (pss_one (ps_ret (pe_lst (pa_cons (pe_mt0 M_Instance_stages_power T.cl_Instance (hr.mono (by decide)) (pv 0)) pa_nil))))))), ?_⟩)
  · obtain ⟨x, b, ad, s, xs, rfl, _⟩ := h
    rfl
  · obtain ⟨x, b, ad, st, xs, rfl, sa, ⟨ys, had⟩, hb, hn, hx, d⟩ := h
    obtain ⟨pl, rfl⟩ := some_of hn (by decide)
    obtain ⟨k, rfl⟩ := one_of (cnt_of hx)
    have ⟨⟨dx, fl, sl, h1, h2, h3, n1, n2⟩, gd⟩ := sa
    have hax : ad ≠ x := ne_of had h1 (by intro z; cases z)
    refine ⟨_, rfl, b, _, _, _, rfl, rfl, SqL.of hb, atI_of (j := 0) rfl rfl, ?_⟩
    refine ⟨_, rfl, x, dx, _, rfl, h1, insF_no _ _, _, rfl, x, ad, k, _, _, rfl, sa.ins, _, rfl, ?_⟩
    by_cases hg : k ≤ 5 ∧ k ≤ pl.curve.length
    · refine if_false_of (by rw [show cv (some pl) = pl.curve from rfl, decide_eq_true hg]; rfl) ?_
      refine ⟨_, rfl, x, C, dx, _, _, rfl, h1, T.cl_Instance, T.na_flows, insF_flows _ _, _, rfl, fl, pl.curve, k, rfl, SqL.of h2, (good_len gd).2, good_max gd, hg.2, fun H1 q0 s1 nq hq => ?_⟩
      rw [KM.bestStages_some hg.2] at hq
      have held := KM.bestStages_held hg.2
      refine ⟨_, rfl, q0, _, rfl, SqL.of hq, fun l nl => ?_⟩
      have hl : (upd H1 l (.lst (cutV (tv (some (Kqk2.bestStages pl.curve k))) (some 1) none))) l = some (.lst (nv (Kqk2.bestStages pl.curve k).2)) := by
        rw [upd_same]
        exact congrArg (fun z => some (HO.lst z)) (cut_tail _ _)
      have sm : Same H (upd H1 l (.lst (cutV (tv (some (Kqk2.bestStages pl.curve k))) (some 1) none))) := same_upd s1 nl
      refine ⟨_, rfl, x, C, dx, _, rfl, sm _ _ h1, T.cl_Instance, T.na_stages, two1000, ?_⟩
      have i1 := Ins.stages (sm _ _ h1) hl (sm _ _ h2) n1 (new_ne (s1 _ _ had) nl)
      have ⟨dx1, fl1, sl1, g1, g2, g3, m1, m2⟩ := i1
      refine ⟨_, rfl, x, dx1, _, rfl, g1, insF_no _ _, x, ad, pl.curve, _, rfl, i1, (good_len gd).2, held.asc, by show 1 ≤ sizeLine; decide, fun p hp => ?_⟩
      refine d _ p (((But.of sm).put).same (same_upd (Same.refl _) hp)) ?_ (new_ne (((But.of sm).put) _ _ had hax) hp) (upd_same.trans ?_)
      · have G2 := KM.good_step (s := some pl) gd 10 [k]
        rw [KM.op10_ok hg] at G2 ⊢
        exact ⟨i1.same (same_upd (Same.refl _) hp), G2⟩
      · rw [KM.op10_ok hg, held.val, ← KM.power_eq]
        rfl
    · refine if_true_of (by rw [show cv (some pl) = pl.curve from rfl, decide_eq_false hg]; rfl) ?_
      refine ⟨by show 1 ≤ sizeLine; decide, fun p hp => ?_⟩
      exact d.stay sa (same_upd (Same.refl H) hp) (by rw [KM.op10_bad hg]) ⟨_, had⟩ hp upd_same (by rw [KM.op10_bad hg]; rfl)
/-! ## 11 marginal_power -/
abbrev s_marginal_power : Stmt := top 36
theorem sc_marginal_power : FnScope ["instance", "numbers", "count"] ["instance", "numbers"] (defScope s_marginal_power) := ⟨rfl, rfl, rfl, by decide +kernel, rfl, by decide +kernel, by decide +kernel⟩
theorem ok_marginal_power {f : Addr} {fd : FuncData} (F : Fun K "marginal_power" "marginal_power" s_marginal_power f fd) (T : Txt K mg C aLC aNC aOP)
    (M_Instance_allows_count : MethN P w K mg base 1 C "allows_count" ["self", "count"] (spAllows C)) (G_best_power_over : DefN P w K mg base 3 "best_power_over" ["flows", "count"] (spBP K)) :
    FnOk P w K mg base CX0 4 f fd ["instance", "numbers"] (spOp C 11) := by
  refine F.ok sc_marginal_power (fun vs H Q E h => ?_) (fun cdv A outer s H vs Q E hr h => ⟨_, (pss_cons (ps_set (i := 2) sc_marginal_power.nd rfl (Or.inl rfl) (pe_ix ix_list (pv 1) pe_int (fun _ _ => rfl)))
 (pss_cons (ps_if (PW.pt (pw_or (pt_cmpR op_eq (pv 2) pe_int (nomark _)) (pw_or1 (pt_not (pt_val (pe_mt M_Instance_allows_count T.cl_Instance (hr.mono (by decide)) (pv 0) (pa_cons (pv 2) pa_nil))))))) (pss_one (ps_ret (pe_lst (pa_cons (pe_const (by rfl) T.c_OUT_OF_RANGE) pa_nil)))) pss_nil)
 (pss_one (ps_ret (pe_lst (pa_cons (pe_op op_sub (pe_fn G_best_power_over (hr.mono (by decide)) (by rfl) (pa_cons (pe_fld (pv 0) rfl) (pa_cons (pv 2) pa_nil))) (pe_fn G_best_power_over (hr.mono (by decide)) (by rfl) (pa_cons (pe_fld (pv 0) rfl) (pa_cons (pe_op op_sub (pv 2) pe_int) pa_nil)))) pa_nil)))))), ?_⟩)
  · obtain ⟨x, b, ad, s, xs, rfl, _⟩ := h
    rfl
  · obtain ⟨x, b, ad, st, xs, rfl, sa, ⟨ys, had⟩, hb, hn, hx, d⟩ := h
    obtain ⟨pl, rfl⟩ := some_of hn (by decide)
    obtain ⟨k, rfl⟩ := one_of (cnt_of hx)
    have ⟨⟨dx, fl, sl, h1, h2, h3, n1, n2⟩, gd⟩ := sa
    refine ⟨_, rfl, b, _, _, _, rfl, rfl, SqL.of hb, atI_of (j := 0) rfl rfl, ?_⟩
    have bad : ¬ (1 ≤ k ∧ k ≤ 5 ∧ k ≤ pl.curve.length) → ∀ p, H p = none → Q (.ref p) (upd H p (.lst [.int (-22)])) := fun e p hp =>
      d.stay sa (same_upd (Same.refl H) hp) (by rw [KM.op11_bad e]) ⟨_, had⟩ hp upd_same (by rw [KM.op11_bad e]; rfl)
    refine ⟨_, rfl, rfl, _, rfl, ?_⟩
    by_cases h0 : k = 0
    · refine if_true_of (by rw [h0]; rfl) (if_true_of rfl ?_)
      exact ⟨by show 1 ≤ sizeLine; decide, fun p hp => bad (by omega) p hp⟩
    · refine if_false_of (decide_eq_false fun e => by injection e with e; omega) ?_
      refine ⟨_, rfl, x, dx, _, rfl, h1, insF_no _ _, _, rfl, x, ad, k, _, _, rfl, sa.ins, _, rfl, ?_⟩
      by_cases hg : k ≤ 5 ∧ k ≤ pl.curve.length
      · refine if_false_of (by rw [show cv (some pl) = pl.curve from rfl, decide_eq_true hg]; rfl) ?_
        refine ⟨_, rfl, x, C, dx, _, _, rfl, h1, T.cl_Instance, T.na_flows, insF_flows _ _, _, rfl, fl, pl.curve, k, rfl, SqL.of h2, (good_len gd).2, good_max gd, hg.2, fun H1 s1 => ?_⟩
        refine ⟨_, rfl, x, C, dx, _, _, rfl, s1 _ _ h1, T.cl_Instance, T.na_flows, insF_flows _ _, _, rfl, _, _, rfl, rfl, fl, pl.curve, k - 1, ?_, SqL.of (s1 _ _ h2), (good_len gd).2, good_max gd, by omega, fun H2 s2 => ?_⟩
        · rw [Int.natCast_sub (by omega)]
          rfl
        refine ⟨_, _, rfl, rfl, by show 1 ≤ sizeLine; decide, fun p hp => ?_⟩
        have hok : 1 ≤ k ∧ k ≤ 5 ∧ k ≤ pl.curve.length := ⟨by omega, hg⟩
        refine d.stay sa (same_upd (s1.trans s2) hp) (by rw [KM.op11_ok hok]) ⟨_, had⟩ ((s1.trans s2).free hp) upd_same ?_
        rw [KM.op11_ok hok, Int.natCast_sub]
        · rfl
        · have := KM.bestStages_grows (c := pl.curve) (k := k - 1) (good_cur gd) (by omega)
          rwa [show k - 1 + 1 = k by omega] at this
      · refine if_true_of (by rw [show cv (some pl) = pl.curve from rfl, decide_eq_false hg]; rfl) ?_
        exact ⟨by show 1 ≤ sizeLine; decide, fun p hp => bad (fun e => hg e.2) p hp⟩
/-! ## 12 count_stage_sets -/
abbrev s_count_stage_sets : Stmt := top 37
theorem sc_count_stage_sets : FnScope ["instance", "numbers", "count"] ["instance", "numbers"] (defScope s_count_stage_sets) := ⟨rfl, rfl, rfl, by decide +kernel, rfl, by decide +kernel, by decide +kernel⟩
theorem ok_count_stage_sets {f : Addr} {fd : FuncData} (F : Fun K "count_stage_sets" "count_stage_sets" s_count_stage_sets f fd) (T : Txt K mg C aLC aNC aOP)
    (M_Instance_allows_count : MethN P w K mg base 1 C "allows_count" ["self", "count"] (spAllows C)) (G_stage_set_count : DefN P w K mg base 1 "stage_set_count" ["grade_count", "count"] spCh) :
    FnOk P w K mg base CX0 2 f fd ["instance", "numbers"] (spOp C 12) := by
  refine F.ok sc_count_stage_sets (fun vs H Q E h => ?_) (fun cdv A outer s H vs Q E hr h => ⟨_, (pss_cons (ps_set (i := 2) sc_count_stage_sets.nd rfl (Or.inl rfl) (pe_ix ix_list (pv 1) pe_int (fun _ _ => rfl)))
 (pss_cons (ps_if (pt_not (pt_val (pe_mt M_Instance_allows_count T.cl_Instance (hr.mono (by decide)) (pv 0) (pa_cons (pv 2) pa_nil)))) (pss_one (ps_ret (pe_lst (pa_cons (pe_const (by rfl) T.c_OUT_OF_RANGE) pa_nil)))) pss_nil)
 (pss_one (ps_ret (pe_lst (pa_cons (pe_fn G_stage_set_count (hr.mono (by decide)) (by rfl) (pa_cons (pe_callB call_len_seq (by rfl) T.n_len (by decide +kernel) (pa_cons (pe_fld (pv 0) rfl) pa_nil)) (pa_cons (pv 2) pa_nil))) pa_nil)))))), ?_⟩)
  · obtain ⟨x, b, ad, s, xs, rfl, _⟩ := h
    rfl
  · obtain ⟨x, b, ad, st, xs, rfl, sa, ⟨ys, had⟩, hb, hn, hx, d⟩ := h
    obtain ⟨pl, rfl⟩ := some_of hn (by decide)
    obtain ⟨k, rfl⟩ := one_of (cnt_of hx)
    have ⟨⟨dx, fl, sl, h1, h2, h3, n1, n2⟩, gd⟩ := sa
    have cv0 : cv (some pl) = pl.curve := rfl
    rw [cv0] at h2
    refine ⟨_, rfl, b, _, _, _, rfl, rfl, SqL.of hb, atI_of (j := 0) rfl rfl, ?_⟩
    refine ⟨_, rfl, x, dx, _, rfl, h1, insF_no _ _, _, rfl, x, ad, k, _, _, rfl, sa.ins, _, rfl, ?_⟩
    by_cases hg : k ≤ 5 ∧ k ≤ pl.curve.length
    · refine if_false_of (by rw [cv0, decide_eq_true hg]; rfl) ?_
      refine ⟨_, rfl, x, C, dx, _, _, rfl, h1, T.cl_Instance, T.na_flows, insF_flows _ _, fl, _, rfl, .inl (SqL.of h2), _, rfl, pl.curve.length, k, by rw [nv_len]; rfl, hg.2, (good_len gd).2, by show 1 ≤ sizeLine; decide, fun p hp => ?_⟩
      exact d.stay sa (same_upd (Same.refl H) hp) (by rw [KM.op12_ok hg]) ⟨_, had⟩ hp upd_same (by rw [KM.op12_ok hg, KM.count_sets]; rfl)
    · refine if_true_of (by rw [cv0, decide_eq_false hg]; rfl) ?_
      refine ⟨by show 1 ≤ sizeLine; decide, fun p hp => ?_⟩
      exact d.stay sa (same_upd (Same.refl H) hp) (by rw [KM.op12_bad hg]) ⟨_, had⟩ hp upd_same (by rw [KM.op12_bad hg]; rfl)
/-! ## 13 best_stage_count -/
abbrev s_best_stage_count : Stmt := top 38
theorem sc_best_stage_count : FnScope ["instance", "numbers"] ["instance", "numbers"] (defScope s_best_stage_count) := ⟨rfl, rfl, rfl, by decide +kernel, rfl, by decide +kernel, by decide +kernel⟩
theorem ok_best_stage_count {f : Addr} {fd : FuncData} (F : Fun K "best_stage_count" "best_stage_count" s_best_stage_count f fd) (T : Txt K mg C aLC aNC aOP)
    (G_best_count_over : DefN P w K mg base 4 "best_count_over" ["flows", "stage_cost"] (spBC K)) :
    FnOk P w K mg base CX0 5 f fd ["instance", "numbers"] (spOp C 13) := by
  refine F.ok sc_best_stage_count (fun vs H Q E h => ?_) (fun cdv A outer s H vs Q E hr h => ⟨_, (pss_cons (ps_if (pt_cmpR op_gt (pe_callB call_len_seq (by rfl) T.n_len (by decide +kernel) (pa_cons (pe_fld (pv 0) rfl) pa_nil)) (pe_const (by rfl) T.c_MOST_GRADES_TO_COUNT) (nomark _)) (pss_one (ps_ret (pe_lst (pa_cons (pe_const (by rfl) T.c_TOO_MANY_GRADES) pa_nil)))) pss_nil)
 (pss_one (ps_ret (pe_fn G_best_count_over (hr.mono (by decide)) (by rfl) (pa_cons (pe_fld (pv 0) rfl) (pa_cons (pe_ix ix_list (pv 1) pe_int (fun _ _ => rfl)) pa_nil)))))), ?_⟩)
  · obtain ⟨x, b, ad, s, xs, rfl, _⟩ := h
    rfl
  · obtain ⟨x, b, ad, st, xs, rfl, sa, ⟨ys, had⟩, hb, hn, hx, d⟩ := h
    obtain ⟨pl, rfl⟩ := some_of hn (by decide)
    obtain ⟨k, rfl⟩ := one_of (cnt_of hx)
    have ⟨⟨dx, fl, sl, h1, h2, h3, n1, n2⟩, gd⟩ := sa
    have cv0 : cv (some pl) = pl.curve := rfl
    rw [cv0] at h2
    refine ⟨_, rfl, x, C, dx, _, _, rfl, h1, T.cl_Instance, T.na_flows, insF_flows _ _, fl, _, rfl, .inl (SqL.of h2), _, _, rfl, rfl, _, rfl, ?_⟩
    rw [nv_len]
    by_cases hg : 8 < pl.curve.length
    · refine if_true_of (decide_eq_true (by omega)) ?_
      refine ⟨by show 1 ≤ sizeLine; decide, fun p hp => ?_⟩
      exact d.stay sa (same_upd (Same.refl H) hp) (by rw [KM.op13_bad hg]) ⟨_, had⟩ hp upd_same (by rw [KM.op13_bad hg]; rfl)
    · refine if_false_of (decide_eq_false (by omega)) ?_
      refine ⟨_, rfl, x, C, dx, _, _, rfl, h1, T.cl_Instance, T.na_flows, insF_flows _ _, _, rfl, b, _, _, _, rfl, rfl, SqL.of hb, atI_of (j := 0) rfl rfl, fl, pl.curve, k, rfl, SqL.of h2, (good_len gd).2, good_max gd, fun H' p sm np hp => ?_⟩
      exact d.stay sa sm (by rw [KM.op13_ok hg]) ⟨_, had⟩ np hp (by rw [KM.op13_ok hg]; rfl)
/-! ## 14 reaches_share -/
abbrev s_reaches_share : Stmt := top 39
theorem sc_reaches_share : FnScope ["instance", "numbers", "count", "percent"] ["instance", "numbers"] (defScope s_reaches_share) := ⟨rfl, rfl, rfl, by decide +kernel, rfl, by decide +kernel, by decide +kernel⟩
theorem ok_reaches_share {f : Addr} {fd : FuncData} (F : Fun K "reaches_share" "reaches_share" s_reaches_share f fd) (T : Txt K mg C aLC aNC aOP)
    (M_Instance_allows_count : MethN P w K mg base 1 C "allows_count" ["self", "count"] (spAllows C)) (G_best_power_over : DefN P w K mg base 3 "best_power_over" ["flows", "count"] (spBP K)) :
    FnOk P w K mg base CX0 4 f fd ["instance", "numbers"] (spOp C 14) := by
  refine F.ok sc_reaches_share (fun vs H Q E h => ?_) (fun cdv A outer s H vs Q E hr h => ⟨_, (pss_cons (ps_set (i := 2) sc_reaches_share.nd rfl (Or.inl rfl) (pe_ix ix_list (pv 1) pe_int (fun _ _ => rfl)))
 (pss_cons (ps_set (i := 3) sc_reaches_share.nd rfl (Or.inl rfl) (pe_ix ix_list (pv 1) pe_int (fun _ _ => rfl)))
 (pss_cons (ps_if (PW.pt (pw_or (pt_not (pt_val (pe_mt M_Instance_allows_count T.cl_Instance (hr.mono (by decide)) (pv 0) (pa_cons (pv 2) pa_nil)))) (pw_or1 (pt_cmpR op_gt (pv 3) (pe_const (by rfl) T.c_MOST_PERCENT) (nomark _))))) (pss_one (ps_ret (pe_lst (pa_cons (pe_const (by rfl) T.c_OUT_OF_RANGE) pa_nil)))) pss_nil)
 (pss_cons (ps_if (pt_cmpR op_ge (pe_op op_mul pe_int (pe_fn G_best_power_over (hr.mono (by decide)) (by rfl) (pa_cons (pe_fld (pv 0) rfl) (pa_cons (pv 2) pa_nil)))) (pe_op op_mul (pv 3) (pe_callB (cr_sum rfl) (by rfl) T.n_sum (by decide +kernel) (pa_cons (pe_fld (pv 0) rfl) pa_nil))) (nomark _)) (pss_one (ps_ret (pe_lst (pa_cons pe_int pa_nil)))) pss_nil)
 (pss_one (ps_ret (pe_lst (pa_cons pe_int pa_nil)))))))), ?_⟩)
  · obtain ⟨x, b, ad, s, xs, rfl, _⟩ := h
    rfl
  · obtain ⟨x, b, ad, st, xs, rfl, sa, ⟨ys, had⟩, hb, hn, hx, d⟩ := h
    obtain ⟨pl, rfl⟩ := some_of hn (by decide)
    obtain ⟨k, q, rfl⟩ := two_of (cnt_of hx)
    have ⟨⟨dx, fl, sl, h1, h2, h3, n1, n2⟩, gd⟩ := sa
    have cv0 : cv (some pl) = pl.curve := rfl
    rw [cv0] at h2
    refine ⟨_, rfl, b, _, _, _, rfl, rfl, SqL.of hb, atI_of (j := 0) rfl rfl, ?_⟩
    refine ⟨_, rfl, b, _, _, _, rfl, rfl, SqL.of hb, atI_of (j := 1) rfl rfl, ?_⟩
    have bad : ¬ (k ≤ 5 ∧ k ≤ pl.curve.length ∧ q ≤ 100) → ∀ p, H p = none → Q (.ref p) (upd H p (.lst [.int (-22)])) := fun e p hp =>
      d.stay sa (same_upd (Same.refl H) hp) (by rw [KM.op14_bad e]) ⟨_, had⟩ hp upd_same (by rw [KM.op14_bad e]; rfl)
    refine ⟨_, rfl, x, dx, _, rfl, h1, insF_no _ _, _, rfl, x, ad, k, _, _, rfl, sa.ins, _, rfl, ?_⟩
    by_cases hg : k ≤ 5 ∧ k ≤ pl.curve.length
    · refine if_false_of (by rw [cv0, decide_eq_true hg]; rfl) ?_
      refine ⟨_, rfl, _, _, rfl, rfl, _, rfl, ?_⟩
      by_cases hq : q ≤ 100
      · refine if_false_of (decide_eq_false (by omega)) ?_
        have hok : k ≤ 5 ∧ k ≤ pl.curve.length ∧ q ≤ 100 := ⟨hg.1, hg.2, hq⟩
        refine ⟨_, rfl, x, C, dx, _, _, rfl, h1, T.cl_Instance, T.na_flows, insF_flows _ _, _, rfl, fl, pl.curve, k, rfl, SqL.of h2, (good_len gd).2, good_max gd, hg.2, fun H1 s1 => ?_⟩
        refine ⟨_, _, rfl, rfl, .inl ⟨by decide, by decide⟩, _, rfl, _, rfl, x, C, dx, _, _, rfl, s1 _ _ h1, T.cl_Instance, T.na_flows, insF_flows _ _, fl, _, rfl, SqL.of (by rw [s1 _ _ h2, nv_ints]), _, _, rfl, rfl, .inl ⟨by omega, by omega⟩, _, _, rfl, rfl, _, rfl, ?_⟩
        rw [sum_cast]
        have e1 : ((q * Kqk2.sum pl.curve : Nat) : Int) = (q : Int) * (Kqk2.sum pl.curve : Nat) := Int.natCast_mul ..
        have e2 : ((100 * (Kqk2.bestStages pl.curve k).1 : Nat) : Int) = 100 * ((Kqk2.bestStages pl.curve k).1 : Nat) := Int.natCast_mul ..
        by_cases h : q * Kqk2.sum pl.curve ≤ 100 * (Kqk2.bestStages pl.curve k).1
        · refine if_true_of (decide_eq_true (by omega)) ?_
          refine ⟨by show 1 ≤ sizeLine; decide, fun p hp => ?_⟩
          exact d.stay sa (same_upd s1 hp) (by rw [KM.op14_ok hok]) ⟨_, had⟩ (s1.free hp) upd_same (by rw [KM.op14_ok hok, if_pos h]; rfl)
        · refine if_false_of (decide_eq_false (by omega)) ?_
          refine ⟨by show 1 ≤ sizeLine; decide, fun p hp => ?_⟩
          exact d.stay sa (same_upd s1 hp) (by rw [KM.op14_ok hok]) ⟨_, had⟩ (s1.free hp) upd_same (by rw [KM.op14_ok hok, if_neg h]; rfl)
      · refine if_true_of (decide_eq_true (by omega)) ?_
        exact ⟨by show 1 ≤ sizeLine; decide, fun p hp => bad (fun e => hq e.2.2) p hp⟩
    · refine if_true_of (by rw [cv0, decide_eq_false hg]; rfl) (if_true_of rfl ?_)
      exact ⟨by show 1 ≤ sizeLine; decide, fun p hp => bad (fun e => hg ⟨e.1, e.2.1⟩) p hp⟩
/-! ## 16 add_stage -/
abbrev s_add_stage : Stmt := top 41
theorem sc_add_stage : FnScope ["instance", "numbers", "grade"] ["instance", "numbers"] (defScope s_add_stage) := ⟨rfl, rfl, rfl, by decide +kernel, rfl, by decide +kernel, by decide +kernel⟩
theorem ok_add_stage {f : Addr} {fd : FuncData} (F : Fun K "add_stage" "add_stage" s_add_stage f fd) (T : Txt K mg C aLC aNC aOP)
    (M_Instance_has_grade : MethN P w K mg base 1 C "has_grade" ["self", "grade"] (spHasGrade C))
    (M_Instance_stages_power : MethN P w K mg base 2 C "stages_power" ["self"] (spSPow C)) :
    FnOk P w K mg base CX0 3 f fd ["instance", "numbers"] (spOp C 16) := by
  refine F.ok sc_add_stage (fun vs H Q E h => ?_) (fun cdv A outer s H vs Q E hr h => ⟨_, (pss_cons (ps_set (i := 2) sc_add_stage.nd rfl (Or.inl rfl) (pe_ix ix_list (pv 1) pe_int (fun _ _ => rfl)))
 (pss_cons (ps_if (pt_not (pt_val (pe_mt M_Instance_has_grade T.cl_Instance (hr.mono (by decide)) (pv 0) (pa_cons (pv 2) pa_nil)))) (pss_one (ps_ret (pe_lst (pa_cons (pe_const (by rfl) T.c_NOT_THERE) pa_nil)))) pss_nil)
 (pss_cons (ps_if (pt_cmpR op_in_seq (pv 2) (pe_fld (pv 0) rfl) (by rfl)) (pss_one (ps_ret (pe_lst (pa_cons (pe_const (by rfl) T.c_STAGE_THERE) pa_nil)))) pss_nil)
 (pss_cons (ps_fld (pv 0) (pe_callB cr_sorted (by rfl) T.n_sorted (by decide +kernel) (pa_cons (pe_op op_cat (pe_fld (pv 0) rfl) (pe_lst (pa_cons (pv 2) pa_nil))) pa_nil)) rfl)
 (pss_one (ps_ret (pe_lst (pa_cons (pe_mt0 M_Instance_stages_power T.cl_Instance (hr.mono (by decide)) (pv 0)) pa_nil)))))))), ?_⟩)
  · obtain ⟨x, b, ad, s, xs, rfl, _⟩ := h
    rfl
  · obtain ⟨x, b, ad, st, xs, rfl, sa, ⟨ys, had⟩, hb, hn, hx, d⟩ := h
    obtain ⟨pl, rfl⟩ := some_of hn (by decide)
    obtain ⟨g, rfl⟩ := one_of (cnt_of hx)
    have ⟨⟨dx, fl, sl, h1, h2, h3, n1, n2⟩, gd⟩ := sa
    have hax : ad ≠ x := ne_of had h1 (by intro z; cases z)
    have cv0 : cv (some pl) = pl.curve := rfl
    have sg0 : sg (some pl) = pl.stages := rfl
    rw [cv0] at h2
    rw [sg0] at h3
    refine ⟨_, rfl, b, _, _, _, rfl, rfl, SqL.of hb, atI_of (j := 0) rfl rfl, ?_⟩
    refine ⟨_, rfl, x, dx, _, rfl, h1, insF_no _ _, _, rfl, x, ad, g, _, _, rfl, sa.ins, _, rfl, ?_⟩
    by_cases hg : 1 ≤ g ∧ g ≤ pl.curve.length
    · refine if_false_of (by rw [cv0, decide_eq_true hg]; rfl) ?_
      refine ⟨_, rfl, _, rfl, x, C, dx, _, _, rfl, h1, T.cl_Instance, T.na_stages, insF_stages _ _, sl, _, rfl, .inl (SqL.of h3), rfl, nv_flat _, _, rfl, ?_⟩
      show (if inV (.int (g : Nat)) (nv pl.stages) = true then _ else _)
      rw [inV_nv]
      by_cases hin : g ∈ pl.stages
      · refine if_true_of (decide_eq_true hin) ?_
        refine ⟨by show 1 ≤ sizeLine; decide, fun p hp => ?_⟩
        exact d.stay sa (same_upd (Same.refl H) hp) (by rw [KM.op16_bad hg hin]) ⟨_, had⟩ hp upd_same (by rw [KM.op16_bad hg hin]; rfl)
      · refine if_false_of (decide_eq_false hin) ?_
        have line : (16777216 : Nat) = sizeLine := rfl
        have slen := good_slen gd
        refine ⟨_, rfl, x, C, dx, _, _, rfl, h1, T.cl_Instance, T.na_stages, insF_stages _ _, _, rfl, by show 1 ≤ sizeLine; decide, fun l1 m1 => ?_⟩
        refine ⟨sl, l1, _, _, rfl, rfl, keep_upd h3 m1, upd_same, ?_, fun l2 m2 => ?_⟩
        · rw [nv_len]
          show pl.stages.length + 1 ≤ sizeLine
          omega
        have s2 : Same H (upd (upd H l1 (.lst [V.int (g : Nat)])) l2 (.lst (nv pl.stages ++ [V.int (g : Nat)]))) := same_upd (same_upd (Same.refl H) m1) m2
        refine ⟨l2, KM.iz (pl.stages ++ [g]), rfl, SqL.of ?_, ?_, fun ns l3 perm pw m3 => ?_⟩
        · rw [upd_same, ← nv_ints, nv_app]
          rfl
        · rw [List.length_map, List.length_append]
          show pl.stages.length + 1 < 64
          omega
        have ens : ns = KM.iz (Kqk2.insertAscending g pl.stages) := KM.sorted_insert (good_asc gd) (by omega) hg.2 hin perm pw
        subst ens
        have s3 := same_upd (o := .lst ((KM.iz (Kqk2.insertAscending g pl.stages)).map V.int)) s2 m3
        have hl := upd_same (H := upd (upd H l1 (.lst [V.int (g : Nat)])) l2 (.lst (nv pl.stages ++ [V.int (g : Nat)]))) (a := l3) (o := .lst ((KM.iz (Kqk2.insertAscending g pl.stages)).map V.int))
        rw [← nv_ints] at hl s3
        rw [← nv_ints]
        refine ⟨_, rfl, x, C, dx, _, rfl, s3 _ _ h1, T.cl_Instance, T.na_stages, two1000, ?_⟩
        have i1 := Ins.stages (s3 _ _ h1) hl (s3 _ _ h2) n1 (new_ne (s2 _ _ had) m3)
        have ⟨dx1, fl1, sl1, g1, g2, g3, p1, p2⟩ := i1
        refine ⟨_, rfl, x, dx1, _, rfl, g1, insF_no _ _, x, ad, pl.curve, _, rfl, i1, (good_len gd).2, KM.asc_insert (by omega) hg.2 hin (good_asc gd), by show 1 ≤ sizeLine; decide, fun p hp => ?_⟩
        refine d _ p (((But.of s3).put).same (same_upd (Same.refl _) hp)) ?_ (new_ne (((But.of s3).put) _ _ had hax) hp) (upd_same.trans ?_)
        · have G2 := KM.good_step (s := some pl) gd 16 [g]
          rw [KM.op16_ok hg hin] at G2 ⊢
          exact ⟨i1.same (same_upd (Same.refl _) hp), G2⟩
        · rw [KM.op16_ok hg hin]
          rfl
    · refine if_true_of (by rw [cv0, decide_eq_false hg]; rfl) ?_
      refine ⟨by show 1 ≤ sizeLine; decide, fun p hp => ?_⟩
      exact d.stay sa (same_upd (Same.refl H) hp) (by rw [KM.op16_no hg]) ⟨_, had⟩ hp upd_same (by rw [KM.op16_no hg]; rfl)
/-! ## 17 remove_stage -/
abbrev s_remove_stage : Stmt := top 42
theorem sc_remove_stage : FnScope ["instance", "numbers", "index"] ["instance", "numbers"] (defScope s_remove_stage) := ⟨rfl, rfl, rfl, by decide +kernel, rfl, by decide +kernel, by decide +kernel⟩
theorem ok_remove_stage {f : Addr} {fd : FuncData} (F : Fun K "remove_stage" "remove_stage" s_remove_stage f fd) (T : Txt K mg C aLC aNC aOP)
    (M_Instance_stages_power : MethN P w K mg base 2 C "stages_power" ["self"] (spSPow C)) :
    FnOk P w K mg base CX0 3 f fd ["instance", "numbers"] (spOp C 17) := by
  refine F.ok sc_remove_stage (fun vs H Q E h => ?_) (fun cdv A outer s H vs Q E hr h => ⟨_, (pss_cons (ps_set (i := 2) sc_remove_stage.nd rfl (Or.inl rfl) (pe_ix ix_list (pv 1) pe_int (fun _ _ => rfl)))
 (pss_cons (ps_if (pt_cmpR op_ge (pv 2) (pe_callB call_len_seq (by rfl) T.n_len (by decide +kernel) (pa_cons (pe_fld (pv 0) rfl) pa_nil)) (nomark _)) (pss_one (ps_ret (pe_lst (pa_cons (pe_const (by rfl) T.c_NOT_THERE) pa_nil)))) pss_nil)
 (pss_cons (ps_fld (pv 0) (pe_op op_cat (pe_slice sl_list (pe_fld (pv 0) rfl) po_none (po_some (pv 2))) (pe_slice sl_list (pe_fld (pv 0) rfl) (po_some (pe_op op_add (pv 2) pe_int)) po_none)) rfl)
 (pss_one (ps_ret (pe_lst (pa_cons (pe_mt0 M_Instance_stages_power T.cl_Instance (hr.mono (by decide)) (pv 0)) pa_nil))))))), ?_⟩)
  · obtain ⟨x, b, ad, s, xs, rfl, _⟩ := h
    rfl
  · obtain ⟨x, b, ad, st, xs, rfl, sa, ⟨ys, had⟩, hb, hn, hx, d⟩ := h
    obtain ⟨pl, rfl⟩ := some_of hn (by decide)
    obtain ⟨i, rfl⟩ := one_of (cnt_of hx)
    have ⟨⟨dx, fl, sl, h1, h2, h3, n1, n2⟩, gd⟩ := sa
    have hax : ad ≠ x := ne_of had h1 (by intro z; cases z)
    have cv0 : cv (some pl) = pl.curve := rfl
    have sg0 : sg (some pl) = pl.stages := rfl
    rw [cv0] at h2
    rw [sg0] at h3
    have line : (16777216 : Nat) = sizeLine := rfl
    have slen := good_slen gd
    refine ⟨_, rfl, b, _, _, _, rfl, rfl, SqL.of hb, atI_of (j := 0) rfl rfl, ?_⟩
    refine ⟨_, rfl, _, rfl, x, C, dx, _, _, rfl, h1, T.cl_Instance, T.na_stages, insF_stages _ _, sl, _, rfl, .inl (SqL.of h3), _, _, rfl, rfl, _, rfl, ?_⟩
    rw [nv_len]
    by_cases hi : i < pl.stages.length
    · refine if_false_of (decide_eq_false (by omega)) ?_
      refine ⟨_, rfl, x, C, dx, _, _, rfl, h1, T.cl_Instance, T.na_stages, insF_stages _ _, _, rfl, _, rfl, sl, _, rfl, SqL.of h3, fun l1 m1 => ?_⟩
      refine ⟨_, rfl, x, C, dx, _, _, rfl, keep_upd h1 m1, T.cl_Instance, T.na_stages, insF_stages _ _, _, rfl, _, _, rfl, rfl, _, rfl, sl, _, rfl, SqL.of (keep_upd h3 m1), fun l2 m2 => ?_⟩
      rw [cut_to, cut_from] at *
      refine ⟨l1, l2, _, _, rfl, rfl, keep_upd upd_same m2, upd_same, ?_, fun l3 m3 => ?_⟩
      · rw [nv_len, nv_len, List.length_take, List.length_drop]
        omega
      have s3 := same_upd (o := .lst (nv (pl.stages.take i) ++ nv (pl.stages.drop (i + 1)))) (same_upd (same_upd (Same.refl H) m1) m2) m3
      have hl := upd_same (H := upd (upd H l1 (.lst (nv (pl.stages.take i)))) l2 (.lst (nv (pl.stages.drop (i + 1))))) (a := l3) (o := .lst (nv (pl.stages.take i) ++ nv (pl.stages.drop (i + 1))))
      rw [← nv_app, ← List.eraseIdx_eq_take_drop_succ] at *
      refine ⟨_, rfl, x, C, dx, _, rfl, s3 _ _ h1, T.cl_Instance, T.na_stages, two1000, ?_⟩
      have i1 := Ins.stages (s3 _ _ h1) hl (s3 _ _ h2) n1 (new_ne (same_upd (same_upd (Same.refl H) m1) m2 _ _ had) m3)
      have ⟨dx1, fl1, sl1, g1, g2, g3, p1, p2⟩ := i1
      refine ⟨_, rfl, x, dx1, _, rfl, g1, insF_no _ _, x, ad, pl.curve, _, rfl, i1, (good_len gd).2, KM.asc_erase i (good_asc gd), by show 1 ≤ sizeLine; decide, fun p hp => ?_⟩
      refine d _ p (((But.of s3).put).same (same_upd (Same.refl _) hp)) ?_ (new_ne (((But.of s3).put) _ _ had hax) hp) (upd_same.trans ?_)
      · have G2 := KM.good_step (s := some pl) gd 17 [i]
        rw [KM.op17_ok hi] at G2 ⊢
        exact ⟨i1.same (same_upd (Same.refl _) hp), G2⟩
      · rw [KM.op17_ok hi]
        rfl
    · refine if_true_of (decide_eq_true (by omega)) ?_
      refine ⟨by show 1 ≤ sizeLine; decide, fun p hp => ?_⟩
      exact d.stay sa (same_upd (Same.refl H) hp) (by rw [KM.op17_no (by omega)]) ⟨_, had⟩ hp upd_same (by rw [KM.op17_no (by omega)]; rfl)
/-! ## 18 unused_power -/
abbrev s_unused_power : Stmt := top 43
theorem sc_unused_power : FnScope ["instance", "numbers"] ["instance", "numbers"] (defScope s_unused_power) := ⟨rfl, rfl, rfl, by decide +kernel, rfl, by decide +kernel, by decide +kernel⟩
theorem ok_unused_power {f : Addr} {fd : FuncData} (F : Fun K "unused_power" "unused_power" s_unused_power f fd) (T : Txt K mg C aLC aNC aOP)
    (M_Instance_stages_power : MethN P w K mg base 2 C "stages_power" ["self"] (spSPow C)) :
    FnOk P w K mg base CX0 3 f fd ["instance", "numbers"] (spOp C 18) := by
  refine F.ok sc_unused_power (fun vs H Q E h => ?_) (fun cdv A outer s H vs Q E hr h => ⟨_, (pss_one (ps_ret (pe_lst (pa_cons (pe_op op_sub (pe_callB (cr_sum rfl) (by rfl) T.n_sum (by decide +kernel) (pa_cons (pe_fld (pv 0) rfl) pa_nil)) (pe_mt0 M_Instance_stages_power T.cl_Instance (hr.mono (by decide)) (pv 0))) pa_nil)))), ?_⟩)
  · obtain ⟨x, b, ad, s, xs, rfl, _⟩ := h
    rfl
  · obtain ⟨x, b, ad, st, xs, rfl, sa, ⟨ys, had⟩, hb, hn, hx, d⟩ := h
    obtain ⟨pl, rfl⟩ := some_of hn (by decide)
    obtain rfl := zero_of (cnt_of hx)
    have ⟨⟨dx, fl, sl, h1, h2, h3, n1, n2⟩, gd⟩ := sa
    have cv0 : cv (some pl) = pl.curve := rfl
    rw [cv0] at h2
    refine ⟨_, rfl, x, C, dx, _, _, rfl, h1, T.cl_Instance, T.na_flows, insF_flows _ _, fl, _, rfl, SqL.of (by rw [h2, nv_ints]), _, rfl, x, dx, _, rfl, h1, insF_no _ _, x, ad, pl.curve, pl.stages, rfl, sa.ins, (good_len gd).2, good_asc gd, _, _, rfl, rfl, by show 1 ≤ sizeLine; decide, fun p hp => ?_⟩
    refine d.stay sa (same_upd (Same.refl H) hp) (by rw [KM.op18_ok]) ⟨_, had⟩ hp upd_same ?_
    rw [KM.op18_ok, sum_cast, Int.natCast_sub (KM.power_le_sum (good_cur gd) (KM.asc_areStages.mpr (good_asc gd)))]
    rfl
/-! ## 19 summary -/
abbrev s_summary : Stmt := top 44
theorem sc_summary : FnScope ["instance", "numbers"] ["instance", "numbers"] (defScope s_summary) := ⟨rfl, rfl, rfl, by decide +kernel, rfl, by decide +kernel, by decide +kernel⟩
theorem ok_summary {f : Addr} {fd : FuncData} (F : Fun K "summary" "summary" s_summary f fd) (T : Txt K mg C aLC aNC aOP) :
    FnOk P w K mg base CX0 1 f fd ["instance", "numbers"] (spOp C 19) := by
  refine F.ok sc_summary (fun vs H Q E h => ?_) (fun cdv A outer s H vs Q E hr h => ⟨_, (pss_one (ps_ret (pe_op op_cat (pe_op op_cat (pe_op op_cat (pe_lst (pa_cons (pe_callB call_len_seq (by rfl) T.n_len (by decide +kernel) (pa_cons (pe_fld (pv 0) rfl) pa_nil)) pa_nil)) (pe_fld (pv 0) rfl)) (pe_lst (pa_cons (pe_callB call_len_seq (by rfl) T.n_len (by decide +kernel) (pa_cons (pe_fld (pv 0) rfl) pa_nil)) pa_nil))) (pe_fld (pv 0) rfl)))), ?_⟩)
  · obtain ⟨x, b, ad, s, xs, rfl, _⟩ := h
    rfl
  · obtain ⟨x, b, ad, st, xs, rfl, sa, ⟨ys, had⟩, hb, hn, hx, d⟩ := h
    obtain ⟨pl, rfl⟩ := some_of hn (by decide)
    obtain rfl := zero_of (cnt_of hx)
    have ⟨⟨dx, fl, sl, h1, h2, h3, n1, n2⟩, gd⟩ := sa
    have cv0 : cv (some pl) = pl.curve := rfl
    have sg0 : sg (some pl) = pl.stages := rfl
    rw [cv0] at h2
    rw [sg0] at h3
    have line : (16777216 : Nat) = sizeLine := rfl
    have slen := good_slen gd
    have clen := (good_len gd).2
    refine ⟨_, rfl, x, C, dx, _, _, rfl, h1, T.cl_Instance, T.na_flows, insF_flows _ _, fl, _, rfl, .inl (SqL.of h2), by show 1 ≤ sizeLine; decide, fun l1 m1 => ?_⟩
    have s1 := same_upd (o := .lst [V.int ((nv pl.curve).length : Nat)]) (Same.refl H) m1
    refine ⟨_, rfl, x, C, dx, _, _, rfl, s1 _ _ h1, T.cl_Instance, T.na_flows, insF_flows _ _, l1, fl, _, _, rfl, rfl, upd_same, s1 _ _ h2, ?_, fun l2 m2 => ?_⟩
    · rw [nv_len]
      simp only [List.length_cons, List.length_nil]
      omega
    have s2 := same_upd (o := .lst ([V.int ((nv pl.curve).length : Nat)] ++ nv pl.curve)) s1 m2
    refine ⟨_, rfl, x, C, dx, _, _, rfl, s2 _ _ h1, T.cl_Instance, T.na_stages, insF_stages _ _, sl, _, rfl, .inl (SqL.of (s2 _ _ h3)), by show 1 ≤ sizeLine; decide, fun l3 m3 => ?_⟩
    have s3 := same_upd (o := .lst [V.int ((nv pl.stages).length : Nat)]) s2 m3
    refine ⟨l2, l3, _, _, rfl, rfl, keep_upd upd_same m3, upd_same, ?_, fun l4 m4 => ?_⟩
    · rw [List.length_append, nv_len]
      simp only [List.length_cons, List.length_nil]
      omega
    have s4 := same_upd (o := .lst (([V.int ((nv pl.curve).length : Nat)] ++ nv pl.curve) ++ [V.int ((nv pl.stages).length : Nat)])) s3 m4
    refine ⟨_, rfl, x, C, dx, _, _, rfl, s4 _ _ h1, T.cl_Instance, T.na_stages, insF_stages _ _, l4, sl, _, _, rfl, rfl, upd_same, s4 _ _ h3, ?_, fun l5 m5 => ?_⟩
    · rw [List.length_append, List.length_append, nv_len, nv_len]
      simp only [List.length_cons, List.length_nil]
      omega
    refine d.stay sa (same_upd s4 m5) (by rw [KM.op19_ok]) ⟨_, had⟩ (s4.free m5) upd_same ?_
    rw [KM.op19_ok, nv_len, nv_len, ← nv_ints]
    show _ = nv (pl.curve.length :: (pl.curve ++ ([pl.stages.length] ++ pl.stages)))
    rw [← List.append_assoc]
    show _ = nv ([pl.curve.length] ++ ((pl.curve ++ [pl.stages.length]) ++ pl.stages))
    rw [nv_app, nv_app, nv_app, ← List.append_assoc, ← List.append_assoc]
    rfl
end
end FG
namespace FG
open PySem PySem.Spec PyProof.Rows L2
section
variable {P : Program} {w : World} {K : PySem.W.Frag} {mg : Str → Option Value} {base : Heap} {C aLC aNC aOP : Addr}
/-! ## free_grades -/
abbrev s_free_grades : Stmt := top 12
theorem sc_free_grades : FnScope ["grades", "index", "grade_count", "below", "above", "grade"] ["grades", "index", "grade_count"] (defScope s_free_grades) := ⟨rfl, rfl, rfl, by decide +kernel, rfl, by decide +kernel, by decide +kernel⟩
def spFree (K : PySem.W.Frag) : Sp := fun vs H Q _ => ∃ (b : Addr) (s : List Nat) (i n : Nat), vs = [.ref b, .int (i : Nat), .int (n : Nat)] ∧ SqL K H b (nv s) ∧ n ≤ 16 ∧ KM.Asc n 0 s ∧ i < s.length ∧
  ∀ H' p, Same H H' → H p = none → H' p = some (.lst (nv (KM.freeG n s i))) → Q (.ref p) H'
theorem ok_free_grades {f : Addr} {fd : FuncData} (F : Fun K "free_grades" "free_grades" s_free_grades f fd) (T : Txt K mg C aLC aNC aOP) : FnOk P w K mg base CX0 1 f fd ["grades", "index", "grade_count"] (spFree K) := by
  refine F.ok sc_free_grades (fun vs H Q E h => ?_) (fun cdv A outer s H vs Q E hr h => ⟨_, (pss_cons (ps_set (i := 3) sc_free_grades.nd rfl (Or.inl rfl) pe_int)
 (pss_cons (ps_set (i := 4) sc_free_grades.nd rfl (Or.inl rfl) (pe_op op_add (pv 2) pe_int))
 (pss_cons (ps_if (pt_cmpR op_gt (pv 1) pe_int (nomark _)) (pss_one (ps_set (i := 3) sc_free_grades.nd rfl (Or.inl rfl) (pe_ix ix_list (pv 0) (pe_op op_sub (pv 1) pe_int) (fun _ _ => rfl)))) pss_nil)
 (pss_cons (ps_if (pt_cmpR op_lt (pe_op op_add (pv 1) pe_int) (pe_callB call_len_seq (by rfl) T.n_len (by decide +kernel) (pa_cons (pv 0) pa_nil)) (nomark _)) (pss_one (ps_set (i := 4) sc_free_grades.nd rfl (Or.inl rfl) (pe_ix ix_list (pv 0) (pe_op op_add (pv 1) pe_int) (fun _ _ => rfl)))) pss_nil)
 (pss_one (ps_ret (pe_lc (own := [("grade", 5)]) rfl sc_free_grades.nd (pi_range2 (by rfl) T.n_range (pa_cons (pe_op op_add (pv 3) pe_int) (pa_cons (pv 4) pa_nil))) (blkOk_by (N := ["grades", "index", "grade_count", "below", "above", "grade"]) (sc := defScope s_free_grades) (by decide +kernel)) (fun _ _ _ _ _ => (pg_name (i := 5) sc_free_grades.nd rfl (Or.inl rfl))) (fun _ _ _ _ _ => (pts_one (pt_cmpR op_ne (pv 5) (pe_ix (show IxR _ (rIxL K) from ix_list) (pv 0) (pv 1) (fun _ _ => rfl)) (nomark _)))) (fun _ _ _ _ _ => (pv 5))))))))), ?_⟩)
  · obtain ⟨b, s, i, n, rfl, _⟩ := h
    rfl
  · obtain ⟨b, s, i, n, rfl, hS, hn, asc, hi', q⟩ := h
    have fin : ∀ lo hi : Nat, KM.lowOf s i = lo → KM.highOf n s i = hi → (tRet (tLc (iRng2 (tCons (tOp (rI0 fun i j => V.int (i + j)) (tVar 3) (tC (V.int 1))) (tCons (tVar 4) tNil))) (gName 5) (tTest (tOp rNe (tVar 5) (tOp (rIxL K) (tVar 0) (tVar 1)))) (tVar 5) [5]) { nx := fun _ H' => Q V.non H', rt := Q })
        [some (.ref b), some (.int (i : Nat)), some (.int (n : Nat)), some (.int (lo : Nat)), some (.int (hi : Nat)), none] H := by
      intro lo hi elo ehi
      have lh := KM.low_high asc hi'
      have hh := KM.high_le (i := i) asc
      refine ⟨_, rfl, _, _, rfl, rfl, _, rfl, _, _, rfl, ⟨by omega, by omega, by omega, by omega⟩, fun D hD => ?_⟩
      refine lc_range (lo := (lo : Int) + 1) (fun j H' => H' D = some (.lst (nv (KM.freeUp s i lo j))) ∧ Same H H') ⟨upd_same, same_upd (Same.refl H) hD⟩ (fun j H1 hj q => ⟨rfl, ?_⟩) (fun H1 q => ?_)
      · obtain ⟨q1, q2⟩ := q
        have len := KM.freeUp_len s i lo j
        have same2 : ∀ z, Same H (upd H1 D z) := fun z b o e => by
          rw [upd_ne (ne_of_none e hD)]
          exact q2 b o e
        refine ⟨_, rfl, _, rfl, _, rfl, b, _, _, _, rfl, rfl, q2.seq hS, atI_of (j := i) rfl (nv_getD hi'), rfl, _, rfl, ?_⟩
        have e1 : ((lo : Int) + 1 + (j : Int)) = ((lo + 1 + j : Nat) : Int) := by omega
        by_cases e : lo + 1 + j ≠ s.getD i 0
        · refine if_true_of ?_ ⟨_, rfl, _, q1, small1000 (by rw [nv_len]; omega), ?_, same2 _⟩
          · rw [decide_eq_false (fun z => by injection z with z; omega)]
            rfl
          · rw [upd_same, KM.freeUp_succ, if_pos e, nv_app, e1]
            rfl
        · refine if_false_of ?_ ⟨?_, q2⟩
          · rw [decide_eq_true (by rw [e1, Decidable.not_not.mp e])]
            rfl
          · rw [q1, KM.freeUp_succ, if_neg e, List.append_nil]
      · obtain ⟨q1, q2⟩ := q
        rw [show ((hi : Int) - ((lo : Int) + 1)).toNat = hi - (lo + 1) by omega] at q1
        refine q H1 D q2 hD ?_
        rw [q1, ← elo, ← ehi]
        rfl
    have z0 : ¬ 0 < i → KM.lowOf s i = 0 := fun h => if_pos (by omega)
    have z1 : 0 < i → KM.lowOf s i = s.getD (i - 1) 0 := fun h => if_neg (by omega)
    have z2 : i + 1 < s.length → KM.highOf n s i = s.getD (i + 1) 0 := fun h => if_pos h
    have z3 : ¬ i + 1 < s.length → KM.highOf n s i = n + 1 := fun h => if_neg h
    refine ⟨_, rfl, _, _, rfl, rfl, ?_⟩
    refine ⟨_, rfl, _, _, rfl, rfl, _, rfl, ?_⟩
    by_cases h0 : 0 < i
    · refine if_true_of (decide_eq_true (by omega)) ?_
      refine ⟨_, rfl, _, rfl, _, _, rfl, rfl, b, _, _, _, rfl, rfl, hS, atI_of (j := i - 1) (by omega) (nv_getD (by omega)), ?_⟩
      refine ⟨_, rfl, _, _, rfl, rfl, _, rfl, b, _, rfl, .inl hS, _, _, rfl, rfl, _, rfl, ?_⟩
      rw [nv_len]
      by_cases h1 : i + 1 < s.length
      · refine if_true_of (decide_eq_true (by omega)) ?_
        refine ⟨_, rfl, _, rfl, _, _, rfl, rfl, b, _, _, _, rfl, rfl, hS, atI_of (j := i + 1) (by omega) (nv_getD (by omega)), ?_⟩
        exact fin _ _ (z1 h0) (z2 h1)
      · refine if_false_of (decide_eq_false (by omega)) ?_
        exact fin _ _ (z1 h0) (z3 h1)
    · refine if_false_of (decide_eq_false (by omega)) ?_
      refine ⟨_, rfl, _, _, rfl, rfl, _, rfl, b, _, rfl, .inl hS, _, _, rfl, rfl, _, rfl, ?_⟩
      rw [nv_len]
      by_cases h1 : i + 1 < s.length
      · refine if_true_of (decide_eq_true (by omega)) ?_
        refine ⟨_, rfl, _, rfl, _, _, rfl, rfl, b, _, _, _, rfl, rfl, hS, atI_of (j := i + 1) (by omega) (nv_getD (by omega)), ?_⟩
        exact fin _ _ (z0 h0) (z2 h1)
      · refine if_false_of (decide_eq_false (by omega)) ?_
        exact fin _ _ (z0 h0) (z3 h1)
/-! ## best_move_over -/
/-- a move as a list: its power, its index, its grade; none: the empty list -/
def mv : Option (Nat × Nat × Nat) → List V
  | none => []
  | some m => nv [m.1, m.2.1, m.2.2]
theorem mv_len (o : Option (Nat × Nat × Nat)) : (mv o).length ≤ 3 := by
  cases o with
  | none => exact Nat.zero_le _
  | some m => exact Nat.le_refl _
abbrev s_best_move_over : Stmt := top 11
theorem sc_best_move_over : FnScope ["flows", "grades", "best", "most", "index", "grade", "power"] ["flows", "grades"] (defScope s_best_move_over) := ⟨rfl, rfl, rfl, by decide +kernel, rfl, by decide +kernel, by decide +kernel⟩
def spMove (K : PySem.W.Frag) : Sp := fun vs H Q _ => ∃ (a b : Addr) (c s : List Nat), vs = [.ref a, .ref b] ∧ SqL K H a (nv c) ∧ SqL K H b (nv s) ∧ c.length ≤ 16 ∧ KM.Asc c.length 0 s ∧
  ∀ H' p, Same H H' → H p = none → H' p = some (.lst (mv (KM.upOf (Kqk2.power c s) (Kqk2.moves ⟨c, s⟩)))) → Q (.ref p) H'
theorem ok_best_move_over {f : Addr} {fd : FuncData} (F : Fun K "best_move_over" "best_move_over" s_best_move_over f fd) (T : Txt K mg C aLC aNC aOP)
    (G_power_over : DefN P w K mg base 1 "power_over" ["flows", "grades"] (spPower K)) (G_free_grades : DefN P w K mg base 1 "free_grades" ["grades", "index", "grade_count"] (spFree K)) :
    FnOk P w K mg base CX0 2 f fd ["flows", "grades"] (spMove K) := by
  refine F.ok sc_best_move_over (fun vs H Q E h => ?_) (fun cdv A outer s H vs Q E hr h => ⟨_, (pss_cons (ps_set (i := 2) sc_best_move_over.nd rfl (Or.inl rfl) (pe_lst pa_nil))
 (pss_cons (ps_set (i := 3) sc_best_move_over.nd rfl (Or.inl rfl) (pe_fn G_power_over (hr.mono (by decide)) (by rfl) (pa_cons (pv 0) (pa_cons (pv 1) pa_nil))))
 (pss_cons (ps_for PassesOwn.never rfl (pi_range1 rfl T.n_range (pa_cons (pe_callB call_len_seq (by rfl) T.n_len (by decide +kernel) (pa_cons (pv 1) pa_nil)) pa_nil)) (pg_name (i := 4) sc_best_move_over.nd rfl (Or.inl rfl)) (pss_one (ps_for PassesOwn.never rfl (pi_list (pe_fn G_free_grades (hr.mono (by decide)) (by rfl) (pa_cons (pv 1) (pa_cons (pv 4) (pa_cons (pe_callB call_len_seq (by rfl) T.n_len (by decide +kernel) (pa_cons (pv 0) pa_nil)) pa_nil))))) (pg_name (i := 5) sc_best_move_over.nd rfl (Or.inl rfl)) (pss_cons (ps_set (i := 6) sc_best_move_over.nd rfl (Or.inl rfl) (pe_fn G_power_over (hr.mono (by decide)) (by rfl) (pa_cons (pv 0) (pa_cons (pe_op op_cat (pe_op op_cat (pe_slice sl_list (pv 1) po_none (po_some (pv 4))) (pe_lst (pa_cons (pv 5) pa_nil))) (pe_slice sl_list (pv 1) (po_some (pe_op op_add (pv 4) pe_int)) po_none)) pa_nil))))
 (pss_one (ps_if (pt_cmpR op_gt (pv 6) (pv 3) (nomark _)) (pss_cons (ps_set (i := 3) sc_best_move_over.nd rfl (Or.inl rfl) (pv 6))
 (pss_one (ps_set (i := 2) sc_best_move_over.nd rfl (Or.inl rfl) (pe_lst (pa_cons (pv 6) (pa_cons (pv 4) (pa_cons (pv 5) pa_nil))))))) pss_nil))))))
 (pss_one (ps_ret (pv 2)))))), ?_⟩)
  · obtain ⟨a, b, c, s, rfl, _⟩ := h
    rfl
  · obtain ⟨a, b, c, s, rfl, hc, hs, clen, asc, q⟩ := h
    have slen := KM.asc_len (Nat.zero_le _) asc
    have line : (16777216 : Nat) = sizeLine := rfl
    -- best = []
    refine ⟨Nat.zero_le _, fun p0 hp0 => ?_⟩
    have s0 := same_upd (o := .lst []) (Same.refl H) hp0
    -- most = power_over(flows, grades)
    refine ⟨_, rfl, _, rfl, a, b, c, s, rfl, s0.seq hc, s0.seq hs, clen, asc, ?_⟩
    -- for index in range(len(grades))
    refine ⟨_, rfl, b, _, rfl, .inl (s0.seq hs), _, rfl, by rw [nv_len]; omega, by rw [nv_len]; omega, ?_⟩
    refine for_range (lo := 0) (fun i σ H' => ∃ (p : Addr) (u v z : Option V), σ = [some (.ref a), some (.ref b), some (.ref p), some (.int (KM.mostOf (Kqk2.power c s) (KM.upOf (Kqk2.power c s) (KM.movesTo ⟨c, s⟩ i)) : Nat)), u, v, z] ∧ Same H H' ∧ H p = none ∧
        H' p = some (.lst (mv (KM.upOf (Kqk2.power c s) (KM.movesTo ⟨c, s⟩ i)))))
      ⟨p0, none, none, none, rfl, s0, hp0, upd_same⟩ ?_ ?_
    · rintro i σ H1 hi ⟨p, u, v, z, rfl, s1, np, hp⟩
      rw [nv_len, Int.toNat_natCast] at hi
      rw [Int.zero_add]
      -- for grade in free_grades(grades, index, len(flows))
      refine ⟨_, rfl, _, rfl, _, rfl, a, _, rfl, .inl (s1.seq hc), b, s, i, c.length, by rw [nv_len]; rfl, s1.seq hs, clen, asc, hi, fun H2 t s2 nt ht => ?_⟩
      have all := KM.movesAt_all (p := ⟨c, s⟩) asc hi
      have free : ∀ g ∈ KM.freeG c.length s i, KM.Asc c.length 0 (s.set i g) := fun g hg => KM.free_ok asc hi hg
      have nxt := KM.movesTo_succ ⟨c, s⟩ i
      rw [all] at nxt
      revert nxt free ht
      generalize KM.freeG c.length s i = fs
      intro ht free nxt
      refine ⟨t, rfl, ⟨_, SqL.of ht⟩, for_list (K := K) (a := t) (xs := nv fs) (fun j σ H' => ∃ (p : Addr) (v z : Option V), σ = [some (.ref a), some (.ref b), some (.ref p), some (.int (KM.mostOf (Kqk2.power c s) (KM.upOf (Kqk2.power c s) (KM.movesTo ⟨c, s⟩ i ++ (fs.take j).map fun g => (Kqk2.power c (s.set i g), i, g))) : Nat)), some (.int (i : Nat)), v, z] ∧ Same H2 H' ∧ H p = none ∧
        H' p = some (.lst (mv (KM.upOf (Kqk2.power c s) (KM.movesTo ⟨c, s⟩ i ++ (fs.take j).map fun g => (Kqk2.power c (s.set i g), i, g))))))
        ⟨p, v, z, ?_, Same.refl _, np, ?_⟩ (fun j σ H' _ ⟨_, _, _, _, e, _⟩ => SqL.of (e _ _ ht)) ?_ ?_⟩
      · rw [List.take_zero, List.map_nil, List.append_nil]
        rfl
      · rw [List.take_zero, List.map_nil, List.append_nil]
        exact s2 _ _ hp
      · rintro j x σ H3 hj ⟨p, v, z, rfl, s3, np, hp⟩
        obtain ⟨g, hg, rfl⟩ := nv_get hj
        have s4 : Same H H3 := (s1.trans s2).trans s3
        have ag := free g (List.mem_of_getElem? hg)
        -- power = power_over(flows, grades[:index] + [grade] + grades[index + 1:])
        refine ⟨_, rfl, _, rfl, _, rfl, _, rfl, b, _, rfl, s4.seq hs, fun l1 m1 => ?_⟩
        refine ⟨_, rfl, by show 1 ≤ sizeLine; decide, fun l2 m2 => ?_⟩
        rw [cut_to] at *
        refine ⟨l1, l2, _, _, rfl, rfl, keep_upd upd_same m2, upd_same, ?_, fun l3 m3 => ?_⟩
        · rw [nv_len, List.length_take]
          simp only [List.length_cons, List.length_nil]
          omega
        have s5 := same_upd (o := .lst (nv (s.take i) ++ [V.int (g : Nat)])) (same_upd (o := .lst [V.int (g : Nat)]) (same_upd (o := .lst (nv (s.take i))) s4 m1) m2) m3
        refine ⟨_, rfl, _, rfl, _, _, rfl, rfl, _, rfl, b, _, rfl, s5.seq hs, fun l4 m4 => ?_⟩
        rw [cut_from] at *
        refine ⟨l3, l4, _, _, rfl, rfl, keep_upd upd_same m4, upd_same, ?_, fun l5 m5 => ?_⟩
        · rw [List.length_append, nv_len, nv_len, List.length_take, List.length_drop]
          simp only [List.length_cons, List.length_nil]
          omega
        have s6 := same_upd (o := .lst ((nv (s.take i) ++ [V.int (g : Nat)]) ++ nv (s.drop (i + 1)))) (same_upd (o := .lst (nv (s.drop (i + 1)))) (same_upd (o := .lst (nv (s.take i) ++ [V.int (g : Nat)])) (same_upd (o := .lst [V.int (g : Nat)]) (same_upd (o := .lst (nv (s.take i))) (Same.refl H3) m1) m2) m3) m4) m5
        rw [set_cut hi] at *
        refine ⟨a, l5, c, s.set i g, rfl, (s4.trans s6).seq hc, SqL.of upd_same, clen, ag, ?_⟩
        -- if power > most
        have step : (fs.take (j + 1)).map (fun g => (Kqk2.power c (s.set i g), i, g)) = (fs.take j).map (fun g => (Kqk2.power c (s.set i g), i, g)) ++ [(Kqk2.power c (s.set i g), i, g)] := by
          rw [take_succ hg, List.map_append]
          rfl
        refine ⟨_, rfl, _, rfl, _, _, rfl, rfl, _, rfl, ?_⟩
        by_cases gt : KM.mostOf (Kqk2.power c s) (KM.upOf (Kqk2.power c s) (KM.movesTo ⟨c, s⟩ i ++ (fs.take j).map fun g => (Kqk2.power c (s.set i g), i, g))) < Kqk2.power c (s.set i g)
        · refine if_true_of (decide_eq_true (by omega)) ?_
          have up := KM.up_yes (y := (Kqk2.power c (s.set i g), i, g)) gt
          rw [List.append_assoc, ← step] at up
          refine ⟨_, rfl, _, rfl, _, rfl, _, rfl, by show 3 ≤ sizeLine; decide, fun p' hp' => ⟨p', some (.int (g : Nat)), some (.int (Kqk2.power c (s.set i g) : Nat)), ?_, s3.trans (same_upd s6 hp'), (s4.trans s6).free hp', ?_⟩⟩
          · rw [up]
            rfl
          · rw [up, upd_same]
            rfl
        · refine if_false_of (decide_eq_false (by omega)) ?_
          have up := KM.up_no (y := (Kqk2.power c (s.set i g), i, g)) gt
          rw [List.append_assoc, ← step] at up
          refine ⟨p, some (.int (g : Nat)), some (.int (Kqk2.power c (s.set i g) : Nat)), ?_, s3.trans s6, np, ?_⟩
          · rw [up]
            rfl
          · rw [up]
            exact s6 _ _ hp
      · rintro σ H3 ⟨p, v, z, rfl, s3, np, hp⟩
        rw [nv_len, List.take_length, ← nxt] at hp ⊢
        exact ⟨p, _, _, _, rfl, (s1.trans s2).trans s3, np, hp⟩
    · rintro σ H1 ⟨p, u, v, z, rfl, s1, np, hp⟩
      rw [nv_len, Int.toNat_natCast] at hp
      exact ⟨_, rfl, q H1 p s1 np (hp.trans (by rw [← KM.movesTo_all]))⟩
/-! ## 15 improve_stage -/
abbrev s_improve_stage : Stmt := top 40
theorem sc_improve_stage : FnScope ["instance", "numbers", "move", "moved"] ["instance", "numbers"] (defScope s_improve_stage) := ⟨rfl, rfl, rfl, by decide +kernel, rfl, by decide +kernel, by decide +kernel⟩
theorem ok_improve_stage {f : Addr} {fd : FuncData} (F : Fun K "improve_stage" "improve_stage" s_improve_stage f fd) (T : Txt K mg C aLC aNC aOP)
    (G_best_move_over : DefN P w K mg base 2 "best_move_over" ["flows", "grades"] (spMove K)) :
    FnOk P w K mg base CX0 3 f fd ["instance", "numbers"] (spOp C 15) := by
  refine F.ok sc_improve_stage (fun vs H Q E h => ?_) (fun cdv A outer s H vs Q E hr h => ⟨_, (pss_cons (ps_set (i := 2) sc_improve_stage.nd rfl (Or.inl rfl) (pe_fn G_best_move_over (hr.mono (by decide)) (by rfl) (pa_cons (pe_fld (pv 0) rfl) (pa_cons (pe_fld (pv 0) rfl) pa_nil))))
 (pss_cons (ps_if (pt_not (pt_truth (pv 2) (by intro _; rfl))) (pss_one (ps_ret (pe_lst (pa_cons (pe_const (by rfl) T.c_NO_BETTER_MOVE) pa_nil)))) pss_nil)
 (pss_cons (ps_set (i := 3) sc_improve_stage.nd rfl (Or.inl rfl) (pe_callTy call_list_of (by rfl) T.n_list (by decide +kernel) (pa_cons (pe_fld (pv 0) rfl) pa_nil)))
 (pss_cons (ps_asg (pe_ix ix_list (pv 2) pe_int (fun _ _ => rfl)) (pg_sub (pv 3) (pe_ix ix_list (pv 2) pe_int (fun _ _ => rfl)) set_list))
 (pss_cons (ps_fld (pv 0) (pv 3) rfl)
 (pss_one (ps_ret (pv 2)))))))), ?_⟩)
  · obtain ⟨x, b, ad, s, xs, rfl, _⟩ := h
    rfl
  · obtain ⟨x, b, ad, st, xs, rfl, sa, ⟨ys, had⟩, hb, hn, hx, d⟩ := h
    obtain ⟨pl, rfl⟩ := some_of hn (by decide)
    obtain rfl := zero_of (cnt_of hx)
    have ⟨⟨dx, fl, sl, h1, h2, h3, n1, n2⟩, gd⟩ := sa
    have hax : ad ≠ x := ne_of had h1 (by intro z; cases z)
    have cv0 : cv (some pl) = pl.curve := rfl
    have sg0 : sg (some pl) = pl.stages := rfl
    rw [cv0] at h2
    rw [sg0] at h3
    refine ⟨_, rfl, x, C, dx, _, _, rfl, h1, T.cl_Instance, T.na_flows, insF_flows _ _, _, rfl, x, C, dx, _, _, rfl, h1, T.cl_Instance, T.na_stages, insF_stages _ _, fl, sl, pl.curve, pl.stages, rfl, SqL.of h2, SqL.of h3, (good_len gd).2, good_asc gd, fun H1 t s1 nt ht => ?_⟩
    -- if not move
    refine ⟨_, rfl, _, .inl ⟨_, SqL.of ht, rfl⟩, ?_⟩
    cases hu : KM.upOf (Kqk2.power pl.curve pl.stages) (Kqk2.moves ⟨pl.curve, pl.stages⟩) with
    | none =>
      refine if_true_of rfl ?_
      refine ⟨by show 1 ≤ sizeLine; decide, fun p hp => ?_⟩
      exact d.stay sa (same_upd s1 hp) (by rw [KM.op15_not hu]) ⟨_, had⟩ (s1.free hp) upd_same (by rw [KM.op15_not hu]; rfl)
    | some m =>
      rw [hu] at ht
      refine if_false_of rfl ?_
      have hm := KM.mem_moves (KM.bestOf_mem (KM.upOf_more hu).2)
      -- moved = list(instance.stages)
      refine ⟨_, rfl, x, C, dx, _, _, rfl, s1 _ _ h1, T.cl_Instance, T.na_stages, insF_stages _ _, sl, _, rfl, .inl (SqL.of (s1 _ _ h3)), fun l nl => ?_⟩
      have s2 := same_upd (o := .lst (nv pl.stages)) s1 nl
      have ht2 := keep_upd (o := .lst (nv pl.stages)) ht nl
      -- moved[move[1]] = move[2]
      refine ⟨_, rfl, t, _, _, _, rfl, rfl, SqL.of ht2, atI_of (j := 2) rfl rfl, _, rfl, _, rfl, t, _, _, _, rfl, rfl, SqL.of ht2, atI_of (j := 1) rfl rfl, l, _, _, m.2.1, rfl, rfl, upd_same, ?_, ?_⟩
      · have : m.2.1 < pl.stages.length := hm.1
        unfold ixN
        show (if 0 ≤ (m.2.1 : Int) then (if (m.2.1 : Int) < ((nv pl.stages).length : Nat) then some ((m.2.1 : Int)).toNat else none) else _) = some m.2.1
        rw [nv_len, if_pos (by omega), if_pos (by omega), Int.toNat_natCast]
      have es : (nv pl.stages).set m.2.1 (.int (m.2.2 : Nat)) = nv (pl.stages.set m.2.1 m.2.2) := by
        unfold nv
        rw [List.map_set]
      have hl : (upd (upd H1 l (.lst (nv pl.stages))) l (.lst ((nv pl.stages).set m.2.1 (.int (m.2.2 : Nat))))) l = some (.lst (nv (pl.stages.set m.2.1 m.2.2))) := by
        rw [upd_same, es]
      have s3 : Same H1 (upd (upd H1 l (.lst (nv pl.stages))) l (.lst ((nv pl.stages).set m.2.1 (.int (m.2.2 : Nat))))) := by
        rw [upd_upd]
        exact same_upd (Same.refl H1) nl
      have sm := s1.trans s3
      -- instance.stages = moved; return move
      refine ⟨_, rfl, _, rfl, x, C, dx, _, rfl, sm _ _ h1, T.cl_Instance, T.na_stages, two1000, ?_⟩
      have i1 := Ins.stages (sm _ _ h1) hl (sm _ _ h2) n1 (new_ne (s1 _ _ had) nl)
      have htx : t ≠ x := (ne_of_none h1 nt).symm
      refine ⟨_, rfl, d _ t ((But.of sm).put) ?_ (new_ne had nt) ?_⟩
      · have G2 := KM.good_step (s := some pl) gd 15 []
        rw [KM.op15_yes hu] at G2 ⊢
        exact ⟨i1, G2⟩
      · rw [KM.op15_yes hu, upd_ne htx]
        exact s3 _ _ ht
end
end FG
namespace FG
open PySem PySem.Spec PyProof.Rows L2
theorem inV_lists (p : Nat) : inV (.int (p : Nat)) [.int 0, .int 6, .int 8] = decide (p ∈ KM.lists) := by
  show ((0 : Int) == (p : Int) || ((6 : Int) == (p : Int) || ((8 : Int) == (p : Int) || false))) = _
  rw [Bool.eq_iff_iff]
  simp only [Bool.or_eq_true, beq_iff_eq, decide_eq_true_eq, Bool.false_eq_true, or_false, KM.lists, List.mem_cons, List.not_mem_nil]
  omega
/-- the answers told, one behind another -/
theorem told_cons (a : List Int) (r : List (List Int)) : PyFlat.told (a :: r) = (a.length : Int) :: a ++ PyFlat.told r := rfl
theorem parsed_pos {l : List Int} {cs : List (Nat × List Nat)} (h : KM.Parsed l cs) (hl : l ≠ []) : ∃ p xs cs' q, cs = (p, xs) :: cs' ∧ p < 20 ∧ (p ∈ KM.lists ∨ xs.length = KM.cnt p) ∧ xs.length ≤ 60 ∧ q = (if p ∈ KM.lists then 2 else 1) ∧
    l[0]? = some (p : Int) ∧ (p ∈ KM.lists → l[1]? = some (xs.length : Int)) ∧ (∃ t, l.drop q = KM.iz xs ++ t ∧ KM.Parsed t cs') := by
  cases h with
  | nil => exact absurd rfl hl
  | num p xs t cs h1 h2 h3 h4 h5 =>
    refine ⟨p, xs, cs, _, rfl, h1, .inr h3, ?_, rfl, rfl, fun e => absurd e h2, t, ?_, h5⟩
    · rw [h3]
      unfold KM.cnt
      split <;> omega
    · rw [if_neg h2]
      rfl
  | lst p xs t cs h1 h2 h3 h4 =>
    refine ⟨p, xs, cs, _, rfl, ?_, .inl h1, h2, rfl, rfl, fun _ => rfl, t, ?_, h4⟩
    · unfold KM.lists at h1
      simp only [List.mem_cons, List.not_mem_nil, or_false] at h1
      omega
    · rw [if_pos h1]
      rfl
theorem cut_mid {ls : List Int} {xs : List Nat} {t : List Int} {st en : Nat} (h : ls.drop st = KM.iz xs ++ t) (he : en = st + xs.length) (hst : st ≤ ls.length) : cutV (ls.map V.int) (some (st : Int)) (some (en : Int)) = nv xs := by
  have hl := congrArg List.length h
  rw [List.length_drop, List.length_append, List.length_map] at hl
  unfold cutV HT.sIx
  dsimp only
  rw [List.length_map, if_neg (by omega), if_neg (by omega), Int.toNat_natCast, Int.toNat_natCast, Nat.min_eq_left hst, Nat.min_eq_left (by omega), he, Nat.add_sub_cancel_left, ← List.map_drop, h, List.map_append, nv_ints]
  rw [List.take_append_of_le_length (by rw [List.length_map, List.length_map]; exact Nat.le_refl _), List.take_of_length_le (by rw [List.length_map, List.length_map]; exact Nat.le_refl _)]
/-- no answer is long -/
theorem ans_short {s : Option Kqk2.Plant} (h : KM.GoodS s) (p : Nat) (xs : List Nat) : (KM.opStep s p xs).2.length ≤ 60 := by
  unfold KM.opStep Kqk2Neutral.fields
  dsimp only
  have vals : ∀ (v : Int) (r : List Int), r.length ≤ 59 → (v :: r).length ≤ 60 := fun v r h => by
    rw [List.length_cons]
    omega
  cases s with
  | none =>
    cases hq : KM.reqOf p xs <;> (try exact (by decide : (1 : Nat) ≤ 60))
    rename_i l
    show (match (if Kqk2.isCurve l = false then (none, Kqk2.Result.value (-22)) else (some ⟨l, []⟩, Kqk2.Result.value l.length) : Option Kqk2.Plant × Kqk2.Result).2 with | .value v => [v] | .values v r => v :: r).length ≤ 60
    by_cases e : Kqk2.isCurve l = false
    · rw [if_pos e]
      exact (by decide : (1 : Nat) ≤ 60)
    · rw [if_neg e]
      exact (by decide : (1 : Nat) ≤ 60)
  | some pl =>
    have one : ∀ r : Kqk2.Result, (∃ v, r = .value v) → (match r with | .value v => [v] | .values v r => v :: r).length ≤ 60 := by
      rintro r ⟨v, rfl⟩
      exact (by decide : (1 : Nat) ≤ 60)
    have ite1 : ∀ {c : Prop} [Decidable c] (a b : Kqk2.Result), (∃ v, a = .value v) → (∃ v, b = .value v) → ∃ v, (if c then a else b) = .value v := by
      intro c _ a b ha hb
      split
      · exact ha
      · exact hb
    have ite2 : ∀ {c : Prop} [Decidable c] (a b : Option Kqk2.Plant × Kqk2.Result), (∃ v, a.2 = .value v) → (∃ v, b.2 = .value v) → ∃ v, (if c then a else b).2 = .value v := by
      intro c _ a b ha hb
      split
      · exact ha
      · exact hb
    have gl := good_len h
    have gs := good_slen h
    cases hq : KM.reqOf p xs with
    | setCurve l => exact one _ (ite2 _ _ ⟨_, rfl⟩ ⟨_, rfl⟩)
    | setFlow g f => exact one _ (ite2 _ _ ⟨_, rfl⟩ (ite2 _ _ ⟨_, rfl⟩ ⟨_, rfl⟩))
    | truncate g => exact one _ (ite2 _ _ ⟨_, rfl⟩ ⟨_, rfl⟩)
    | reduceFlows a => exact one _ ⟨_, rfl⟩
    | totalFlow => exact one _ ⟨_, rfl⟩
    | flowAt g => exact one _ (ite1 _ _ ⟨_, rfl⟩ ⟨_, rfl⟩)
    | setStages l => exact one _ (ite2 _ _ ⟨_, rfl⟩ ⟨_, rfl⟩)
    | power => exact one _ ⟨_, rfl⟩
    | powerOf l => exact one _ (ite1 _ _ ⟨_, rfl⟩ ⟨_, rfl⟩)
    | bestStages k =>
      show (match (if Kqk2.isStageCount pl k = false then Kqk2.Result.value (-22) else .values _ (Kqk2.ints (Kqk2.bestStages pl.curve k).2)) with | .value v => [v] | .values v r => v :: r).length ≤ 60
      by_cases hk : k ≤ 5 ∧ k ≤ pl.curve.length
      · rw [if_neg (KM.count_ok hk)]
        refine vals _ _ ?_
        unfold Kqk2.ints
        rw [List.length_map, (KM.bestStages_held hk.2).len]
        omega
      · rw [if_pos (KM.count_no hk)]
        decide
    | applyBestStages k => exact one _ (ite2 _ _ ⟨_, rfl⟩ ⟨_, rfl⟩)
    | marginalPower k => exact one _ (ite1 _ _ ⟨_, rfl⟩ ⟨_, rfl⟩)
    | countStageSets k => exact one _ (ite1 _ _ ⟨_, rfl⟩ ⟨_, rfl⟩)
    | bestStageCount k =>
      show (match (if 8 < pl.curve.length then Kqk2.Result.value (-75) else .values _ _) with | .value v => [v] | .values v r => v :: r).length ≤ 60
      by_cases hk : 8 < pl.curve.length
      · rw [if_pos hk]
        decide
      · rw [if_neg hk]
        exact (by decide : (2 : Nat) ≤ 60)
    | reachesShare k q => exact one _ (ite1 _ _ ⟨_, rfl⟩ ⟨_, rfl⟩)
    | improveStage =>
      rw [KM.step15]
      cases KM.bestMove pl with
      | none => exact (by decide : (1 : Nat) ≤ 60)
      | some m =>
        dsimp only
        by_cases hk : m.1 ≤ Kqk2.power pl.curve pl.stages
        · rw [if_pos hk]
          exact (by decide : (1 : Nat) ≤ 60)
        · rw [if_neg hk]
          exact (by decide : (3 : Nat) ≤ 60)
    | addStage g => exact one _ (ite2 _ _ ⟨_, rfl⟩ (ite2 _ _ ⟨_, rfl⟩ ⟨_, rfl⟩))
    | removeStage i => exact one _ (ite2 _ _ ⟨_, rfl⟩ ⟨_, rfl⟩)
    | unusedPower => exact one _ ⟨_, rfl⟩
    | summary =>
      refine vals _ _ ?_
      unfold Kqk2.ints
      rw [List.length_append, List.length_map, List.length_map, List.length_cons]
      omega
section
variable {P : Program} {w : World} {K : PySem.W.Frag} {mg : Str → Option Value} {base : Heap} {C aLC aNC aOP : Addr} {nop : Nat}
/-- what stands in the tables of the module -/
structure Tab (K : PySem.W.Frag) (aLC aNC : Addr) : Prop where
  lc : ∃ (o : Obj) (its : Array Value) (n : Nat), K.lookup aLC = some o ∧ o.cls = .type "tuple" ∧ o.data = .seq its n ∧ its.size ≤ sizeLine ∧ Vals [.int 0, .int 6, .int 8] its.toList
  nc : ∀ p, p < 20 → p ∉ KM.lists → ∃ t, KTab K aNC (p : Int) (.int (KM.cnt p : Nat) t)
theorem Tab.seq (B : Tab K aLC aNC) (H : Hp) : SqT K H aLC [.int 0, .int 6, .int 8] := .inr B.lc
abbrev s_numbers_start : Stmt := top 49
theorem sc_numbers_start : FnScope ["calls", "position"] ["calls", "position"] (defScope s_numbers_start) := ⟨rfl, rfl, rfl, by decide +kernel, rfl, by decide +kernel, by decide +kernel⟩
def spStart (K : PySem.W.Frag) : Sp := fun vs H Q _ => ∃ (a : Addr) (ls : List Int) (pos p : Nat), vs = [.ref a, .int (pos : Nat)] ∧ SqL K H a (ls.map V.int) ∧ ls[pos]? = some (p : Int) ∧ Q (.int ((pos + if p ∈ KM.lists then 2 else 1 : Nat) : Int)) H
theorem map_at {ls : List Int} {j : Nat} {i : Int} (h : ls[j]? = some i) : (ls.map V.int)[j]? = some (.int i) := by
  rw [List.getElem?_map, h]
  rfl
theorem ok_numbers_start {f : Addr} {fd : FuncData} (F : Fun K "numbers_start" "numbers_start" s_numbers_start f fd) (T : Txt K mg C aLC aNC aOP) (B : Tab K aLC aNC) : FnOk P w K mg base CX0 1 f fd ["calls", "position"] (spStart K) := by
  refine F.ok sc_numbers_start (fun vs H Q E h => ?_) (fun cdv A outer s H vs Q E hr h => ⟨_, (pss_cons (ps_if (pt_cmpR op_in_seq (pe_ix ix_list (pv 0) (pv 1) (fun _ _ => rfl)) (pe_globR (by rfl) T.c_LIST_CALLS) (by rfl)) (pss_one (ps_ret (pe_op op_add (pv 1) pe_int))) pss_nil)
 (pss_one (ps_ret (pe_op op_add (pv 1) pe_int)))), ?_⟩)
  · obtain ⟨a, ls, pos, p, rfl, _⟩ := h
    rfl
  · obtain ⟨a, ls, pos, p, rfl, hS, hp, k⟩ := h
    refine ⟨_, rfl, _, rfl, a, _, _, _, rfl, rfl, hS, atI_of rfl (map_at hp), aLC, _, rfl, .inr (B.seq H), rfl, rfl, _, rfl, ?_⟩
    show (if inV (.int (p : Nat)) [.int 0, .int 6, .int 8] = true then _ else _)
    rw [inV_lists]
    by_cases h : p ∈ KM.lists
    · refine if_true_of (decide_eq_true h) ⟨_, rfl, _, _, rfl, rfl, ?_⟩
      rw [if_pos h] at k
      exact k
    · refine if_false_of (decide_eq_false h) ⟨_, rfl, _, _, rfl, rfl, ?_⟩
      rw [if_neg h] at k
      exact k
abbrev s_number_count : Stmt := top 50
theorem sc_number_count : FnScope ["calls", "position"] ["calls", "position"] (defScope s_number_count) := ⟨rfl, rfl, rfl, by decide +kernel, rfl, by decide +kernel, by decide +kernel⟩
def spCount (K : PySem.W.Frag) : Sp := fun vs H Q _ => ∃ (a : Addr) (ls : List Int) (pos p n : Nat), vs = [.ref a, .int (pos : Nat)] ∧ SqL K H a (ls.map V.int) ∧ ls[pos]? = some (p : Int) ∧ p < 20 ∧ (p ∈ KM.lists → ls[pos + 1]? = some (n : Int)) ∧ (p ∉ KM.lists → n = KM.cnt p) ∧
  Q (.int (n : Nat)) H
theorem ok_number_count {f : Addr} {fd : FuncData} (F : Fun K "number_count" "number_count" s_number_count f fd) (T : Txt K mg C aLC aNC aOP) (B : Tab K aLC aNC) : FnOk P w K mg base CX0 1 f fd ["calls", "position"] (spCount K) := by
  refine F.ok sc_number_count (fun vs H Q E h => ?_) (fun cdv A outer s H vs Q E hr h => ⟨_, (pss_cons (ps_if (pt_cmpR op_in_seq (pe_ix ix_list (pv 0) (pv 1) (fun _ _ => rfl)) (pe_globR (by rfl) T.c_LIST_CALLS) (by rfl)) (pss_one (ps_ret (pe_ix ix_list (pv 0) (pe_op op_add (pv 1) pe_int) (fun _ _ => rfl)))) pss_nil)
 (pss_one (ps_ret (pe_ix ix_tab (pe_globR (by rfl) T.c_NUMBER_COUNTS) (pe_ix ix_list (pv 0) (pv 1) (fun _ _ => rfl)) (fun _ _ => rfl))))), ?_⟩)
  · obtain ⟨a, ls, pos, p, n, rfl, _⟩ := h
    rfl
  · obtain ⟨a, ls, pos, p, n, rfl, hS, hp, h20, hn1, hn2, k⟩ := h
    refine ⟨_, rfl, _, rfl, a, _, _, _, rfl, rfl, hS, atI_of rfl (map_at hp), aLC, _, rfl, .inr (B.seq H), rfl, rfl, _, rfl, ?_⟩
    show (if inV (.int (p : Nat)) [.int 0, .int 6, .int 8] = true then _ else _)
    rw [inV_lists]
    by_cases h : p ∈ KM.lists
    · refine if_true_of (decide_eq_true h) ⟨_, rfl, _, rfl, _, _, rfl, rfl, a, _, _, _, rfl, rfl, hS, atI_of (j := pos + 1) (by omega) (map_at (hn1 h)), ?_⟩
      exact k
    · obtain ⟨t, ht⟩ := B.nc p h20 h
      refine if_false_of (decide_eq_false h) ⟨_, rfl, _, rfl, a, _, _, _, rfl, rfl, hS, atI_of rfl (map_at hp), aNC, _, _, .int (KM.cnt p : Nat), rfl, rfl, ht, ⟨t, rfl⟩, ?_⟩
      rw [← hn2 h]
      exact k
abbrev s_answer_call : Stmt := top 51
theorem sc_answer_call : FnScope ["instance", "call", "numbers", "operation"] ["instance", "call", "numbers"] (defScope s_answer_call) := ⟨rfl, rfl, rfl, by decide +kernel, rfl, by decide +kernel, by decide +kernel⟩
def spCall (C : Addr) (nop : Nat) : Sp := fun vs H Q _ => ∃ (x b ad : Addr) (s : Option Kqk2.Plant) (p : Nat) (xs : List Nat), vs = [.ref x, .int (p : Nat), .ref b] ∧ StAt C ad H x s ∧ (∃ ys, H ad = some (.lst ys)) ∧ H b = some (.lst (nv xs)) ∧ p < nop ∧ (p ∈ KM.lists ∨ xs.length = KM.cnt p) ∧
  Done C ad x H s p xs Q
theorem ok_answer_call {f : Addr} {fd : FuncData} (F : Fun K "answer_call" "answer_call" s_answer_call f fd) (T : Txt K mg C aLC aNC aOP) (M_Instance_has_curve : MethN P w K mg base 1 C "has_curve" ["self"] (spHasCurve C))
    (Ops : ∀ p, p < nop → ∃ g, KTab K aOP (p : Int) (.ref g) ∧ Held P w K mg base 5 g (spOp C p)) :
    FnOk P w K mg base CX0 6 f fd ["instance", "call", "numbers"] (spCall C nop) := by
  refine F.ok sc_answer_call (fun vs H Q E h => ?_) (fun cdv A outer s H vs Q E hr h => ?_)
  · obtain ⟨x, b, ad, st, p, xs, rfl, _⟩ := h
    rfl
  · obtain ⟨x, b, ad, st, p, xs, rfl, sa, had, hb, hp, hx, d⟩ := h
    obtain ⟨g, tab, held⟩ := Ops p hp
    have H_operation : ∀ f' sp, (fun q : Addr => if q = g then some (spOp C p) else none) f' = some sp → Held P w K mg base 5 f' sp := fun f' sp e => by
      dsimp only at e
      split at e
      · rename_i eq
        cases e
        rw [eq]
        exact held
      · cases e
    refine ⟨_, (pss_cons (ps_if (PW.pt (pw_and (pt_cmpR op_ne (pv 1) (pe_const (by rfl) T.c_SET_CURVE) (nomark _)) (pw_and1 (pt_not (pt_val (pe_mt0 M_Instance_has_curve T.cl_Instance (hr.mono (by decide)) (pv 0))))))) (pss_one (ps_ret (pe_lst (pa_cons (pe_const (by rfl) T.c_NO_CURVE) pa_nil)))) pss_nil)
 (pss_cons (ps_set (i := 3) sc_answer_call.nd rfl (Or.inl rfl) (pe_ix ix_tab (pe_globR (by rfl) T.c_OPERATIONS) (pv 1) (fun _ _ => rfl)))
 (pss_one (ps_ret (pe_callA (i := 3) H_operation (hr.mono (by decide)) rfl (Or.inl rfl) (pa_cons (pv 0) (pa_cons (pv 2) pa_nil))))))), ?_⟩
    have go : (p = 0 ∨ st ≠ none) → (tSeq (tAsg (tOp (rIxTab K) (tC (.ref aOP)) (tVar 1)) (gName 3)) (tRet (tCallA 3 (fun q : Addr => if q = g then some (spOp C p) else none) (tCons (tVar 0) (tCons (tVar 2) tNil))))) { nx := fun _ H' => Q .non H', rt := Q } (L2.start ["instance", "call", "numbers", "operation"] [.ref x, .int (p : Nat), .ref b]) H := by
      intro hs
      refine ⟨_, rfl, aOP, _, _, .ref g, rfl, rfl, tab, rfl, ?_⟩
      exact ⟨g, spOp C p, rfl, if_pos rfl, _, rfl, _, rfl, x, b, ad, st, xs, rfl, sa, had, hb, hs, hx, d⟩
    refine ⟨_, rfl, rfl, _, rfl, ?_⟩
    by_cases h0 : p = 0
    · refine if_false_of (by rw [h0]; rfl) ?_
      exact if_false_of rfl (go (.inl h0))
    · refine if_true_of ?_ ?_
      · have : ¬ V.int ((p : Nat) : Int) = V.int 0 := fun e => by
          injection e with e
          omega
        rw [decide_eq_false this]
        rfl
      · have ⟨⟨dx, fl, sl, h1, h2, h3, n1, n2⟩, gd⟩ := sa
        refine ⟨_, rfl, x, dx, _, rfl, h1, insF_no _ _, x, ad, _, _, rfl, sa.ins, _, rfl, ?_⟩
        cases st with
        | none =>
          refine if_true_of rfl ?_
          refine ⟨by show 1 ≤ sizeLine; decide, fun q hq => ?_⟩
          exact d.stay sa (same_upd (Same.refl H) hq) (by rw [KM.op_none p xs h0]) had hq upd_same (by rw [KM.op_none p xs h0]; rfl)
        | some pl =>
          have := (good_len gd).1
          refine if_false_of ?_ (go (.inr (by intro z; cases z)))
          show (!decide (0 < pl.curve.length)) = false
          rw [decide_eq_true (by omega)]
          rfl
end
end FG
namespace FG
open PySem PySem.Spec PyProof.Rows L2
/-- the number in the fourth slot -/
def slotInt (σ : L2.St) : Int := match σ[3]? with
  | some (some (V.int i)) => i
  | _ => 0
section
variable {P : Program} {w : World} {K : PySem.W.Frag} {mg : Str → Option Value} {base : Heap} {C aLC aNC aOP : Addr} {nop : Nat}
abbrev s_answers : Stmt := top 48
theorem sc_answers : FnScope ["calls", "instance", "answered", "position", "start", "end", "answer"] ["calls"] (defScope s_answers) := ⟨rfl, rfl, rfl, by decide +kernel, rfl, by decide +kernel, by decide +kernel⟩
def spAns (K : PySem.W.Frag) : Sp := fun vs H Q _ => ∃ (a : Addr) (ls : List Int), vs = [.ref a] ∧ SqL K H a (ls.map V.int) ∧ ls.length ≤ 12500 ∧ PyKqk2.answers_asked ls = true ∧
  ∀ (H' : Hp) (p : Addr), H' p = some (.lst ((PyKqk2.answers ls).map V.int)) → Q (.ref p) H'
theorem ok_answers {f : Addr} {fd : FuncData} (F : Fun K "answers" "answers" s_answers f fd) (T : Txt K mg C aLC aNC aOP) (G_Instance___init__ : MakeN P w K mg base 1 C "Instance" ["self"] (spInit C))
    (G_numbers_start : DefN P w K mg base 1 "numbers_start" ["calls", "position"] (spStart K)) (G_number_count : DefN P w K mg base 1 "number_count" ["calls", "position"] (spCount K))
    (G_answer_call : DefN P w K mg base 6 "answer_call" ["instance", "call", "numbers"] (spCall C 20)) :
    FnOk P w K mg base CX0 7 f fd ["calls"] (spAns K) := by
  refine F.ok sc_answers (fun vs H Q E h => ?_) (fun cdv A outer s H vs Q E hr h => ⟨_, (pss_cons (ps_set (i := 1) sc_answers.nd rfl (Or.inl rfl) (pe_mk0 G_Instance___init__ (hr.mono (by decide)) (by rfl)))
 (pss_cons (ps_set (i := 2) sc_answers.nd rfl (Or.inl rfl) (pe_lst pa_nil))
 (pss_cons (ps_set (i := 3) sc_answers.nd rfl (Or.inl rfl) pe_int)
 (pss_cons (ps_while PassesOwn.never (pt_cmpR op_lt (pv 3) (pe_callB call_len_seq (by rfl) T.n_len (by decide +kernel) (pa_cons (pv 0) pa_nil)) (nomark _)) (pss_cons (ps_set (i := 4) sc_answers.nd rfl (Or.inl rfl) (pe_fn G_numbers_start (hr.mono (by decide)) (by rfl) (pa_cons (pv 0) (pa_cons (pv 3) pa_nil))))
 (pss_cons (ps_set (i := 5) sc_answers.nd rfl (Or.inl rfl) (pe_op op_add (pv 4) (pe_fn G_number_count (hr.mono (by decide)) (by rfl) (pa_cons (pv 0) (pa_cons (pv 3) pa_nil)))))
 (pss_cons (ps_set (i := 6) sc_answers.nd rfl (Or.inl rfl) (pe_fn G_answer_call (hr.mono (by decide)) (by rfl) (pa_cons (pv 1) (pa_cons (pe_ix ix_list (pv 0) (pv 3) (fun _ _ => rfl)) (pa_cons (pe_slice sl_list (pv 0) (po_some (pv 4)) (po_some (pv 5))) pa_nil)))))
 (pss_cons (ps_expr (pe_bm PySem.F.plainAttrs_list PySem.F.slot_list_append PySem.F.type_list_append mt_append (pv 2) (pa_cons (pe_callB call_len_seq (by rfl) T.n_len (by decide +kernel) (pa_cons (pv 6) pa_nil)) pa_nil)))
 (pss_cons (ps_expr (pe_bm PySem.F.plainAttrs_list PySem.F.slot_list_extend PySem.F.type_list_extend mt_extend (pv 2) (pa_cons (pv 6) pa_nil)))
 (pss_one (ps_set (i := 3) sc_answers.nd rfl (Or.inl rfl) (pv 5)))))))))
 (pss_one (ps_ret (pv 2))))))), ?_⟩)
  · obtain ⟨a, ls, rfl, _⟩ := h
    rfl
  · obtain ⟨a, ls, rfl, hS, hlen, ask, k⟩ := h
    obtain ⟨cs0, par, few, due⟩ := KM.asked_parsed ask
    -- instance = Instance()
    intro x dx nx nd ne
    refine ⟨x, dx, rfl, upd_same, fun H1 dx1 fl sl e1 e2 e3 kp => ⟨rfl, ?_⟩⟩
    have s1 : Same H H1 := Same.made nx nd kp
    -- answered = []
    refine ⟨Nat.zero_le _, fun ad nad => ?_⟩
    have hx0 : H x = none := nx
    have had0 : H ad = none := s1.free nad
    have i0 : StAt C ad (upd H1 ad (.lst [])) x none := ⟨⟨dx1, fl, sl, keep_upd e1 nad, keep_upd e2 nad, keep_upd e3 nad, ne_of_none e2 nad, ne_of_none e3 nad⟩, trivial⟩
    -- position = 0; while position < len(calls)
    have start : ∃ (s : Option Kqk2.Plant) (pos : Nat) (cs : List (Nat × List Nat)) (acc : List Int) (v4 v5 v6 : Option V), [some (V.ref a), some (.ref x), some (.ref ad), some (.int 0), none, none, none] = [some (V.ref a), some (.ref x), some (.ref ad), some (.int (pos : Nat)), v4, v5, v6] ∧
        pos ≤ ls.length ∧ KM.Parsed (ls.drop pos) cs ∧ StAt C ad (upd H1 ad (.lst [])) x s ∧ (upd H1 ad (.lst [])) ad = some (.lst (acc.map V.int)) ∧ acc ++ PyFlat.told (KM.runs s cs) = PyKqk2.answers ls ∧ Same H (upd H1 ad (.lst [])) ∧ acc.length + 61 * cs.length ≤ 20000 :=
      ⟨none, 0, cs0, [], none, none, none, rfl, Nat.zero_le _, par, i0, upd_same, due.symm, same_upd s1 nad, by
        show 0 + 61 * cs0.length ≤ 20000
        omega⟩
    refine while_by (fun σ H' => ∃ (s : Option Kqk2.Plant) (pos : Nat) (cs : List (Nat × List Nat)) (acc : List Int) (v4 v5 v6 : Option V), σ = [some (V.ref a), some (.ref x), some (.ref ad), some (.int (pos : Nat)), v4, v5, v6] ∧
        pos ≤ ls.length ∧ KM.Parsed (ls.drop pos) cs ∧ StAt C ad H' x s ∧ H' ad = some (.lst (acc.map V.int)) ∧ acc ++ PyFlat.told (KM.runs s cs) = PyKqk2.answers ls ∧ Same H H' ∧ acc.length + 61 * cs.length ≤ 20000)
      (fun σ _ => ((ls.length : Int) - slotInt σ).toNat) start ?_ ?_
    · rintro σ H2 ⟨st, pos, cs, acc, v4, v5, v6, rfl, hpos, pr, sa, had, eq, sm, short⟩
      refine ⟨_, rfl, _, rfl, a, _, rfl, .inl (sm.seq hS), _, _, rfl, rfl, _, rfl, ?_⟩
      rw [List.length_map]
      by_cases more : pos < ls.length
      · refine if_true_of (decide_eq_true (by omega)) ?_
        obtain ⟨p, xs, cs', q, rfl, hp, hx, hx60, hq, at0, at1, t, cut, pr'⟩ := parsed_pos pr (by
          intro e
          have := congrArg List.length e
          rw [List.length_drop, List.length_nil] at this
          omega)
        have hat0 : ls[pos]? = some (p : Int) := by
          rw [List.getElem?_drop] at at0
          exact at0
        have hat1 : p ∈ KM.lists → ls[pos + 1]? = some (xs.length : Int) := fun e => by
          have := at1 e
          rwa [List.getElem?_drop] at this
        rw [List.drop_drop] at cut
        have hlen2 := congrArg List.length cut
        rw [List.length_drop, List.length_append, List.length_map] at hlen2
        have hq2 : 1 ≤ q ∧ q ≤ 2 := by
          rw [hq]
          split <;> omega
        have hle : pos + q ≤ ls.length := by
          by_cases hin : p ∈ KM.lists
          · have := (List.getElem?_eq_some_iff.mp (hat1 hin)).1
            rw [if_pos hin] at hq
            omega
          · rw [if_neg hin] at hq
            omega
        -- start, end
        refine ⟨_, rfl, _, rfl, a, ls, pos, p, rfl, sm.seq hS, hat0, ?_⟩
        rw [← hq]
        refine ⟨_, rfl, _, rfl, _, rfl, a, ls, pos, p, xs.length, rfl, sm.seq hS, hat0, hp, hat1, fun e => hx.resolve_left e, _, _, rfl, rfl, ?_⟩
        -- answer
        refine ⟨_, rfl, _, rfl, _, rfl, a, _, _, _, rfl, rfl, sm.seq hS, atI_of rfl (map_at hat0), _, rfl, _, rfl, _, rfl, _, rfl, _, rfl, a, _, rfl, sm.seq hS, fun b nb => ?_⟩
        have ec : cutV (ls.map V.int) (some ((pos + q : Nat) : Int)) (some (((pos + q : Nat) : Int) + (xs.length : Int))) = nv xs := by
          rw [← Int.natCast_add]
          exact cut_mid cut rfl hle
        have sb : Same H2 (upd H2 b (.lst (cutV (ls.map V.int) (some ((pos + q : Nat) : Int)) (some (((pos + q : Nat) : Int) + (xs.length : Int)))))) := same_upd (Same.refl _) nb
        refine ⟨x, b, ad, st, p, xs, rfl, sa.same sb, ⟨_, sb _ _ had⟩, by rw [upd_same, ec], hp, hx, fun H3 r bt st3 hra hr3 => ?_⟩
        have ⟨⟨dx3, fl3, sl3, g1, g2, g3, m1, m2⟩, gd3⟩ := st3
        have nxa : ad ≠ x := by
          have ⟨⟨dx2, fl2, sl2, k1, _, _, _, _⟩, _⟩ := sa
          exact ne_of had k1 (by intro z; cases z)
        have had3 : H3 ad = some (.lst (acc.map V.int)) := bt _ _ (sb _ _ had) nxa
        have sm3 : Same H H3 := fun c o e => bt c o (sb _ _ (sm c o e)) (fun z => by
          rw [z, hx0] at e
          cases e)
        have short2 := ans_short sa.good p xs
        rw [List.length_cons] at short
        have line : (16777216 : Nat) = sizeLine := rfl
        -- answered.append(len(answer)); answered.extend(answer); position = end
        refine ⟨_, rfl, .inl ⟨rfl, _, .inl (.inl had3)⟩, _, rfl, r, _, rfl, .inl (SqL.of hr3), ad, _, _, rfl, rfl, had3, by rw [List.length_map]; omega, ?_⟩
        refine ⟨_, rfl, .inl ⟨rfl, _, .inl (.inl upd_same)⟩, _, rfl, ad, r, _, _, rfl, rfl, upd_same, by rw [upd_ne hra]; exact hr3, ?_, ?_⟩
        · rw [List.length_append, List.length_map, List.length_map]
          simp only [List.length_cons, List.length_nil]
          omega
        · refine ⟨_, rfl, ⟨(KM.opStep st p xs).1, pos + q + xs.length, cs', acc ++ ((KM.opStep st p xs).2.length : Int) :: (KM.opStep st p xs).2, _, _, _, rfl, ?_, ?_, ?_, ?_, ?_, ?_, ?_⟩, ?_⟩
          · omega
          · rw [← List.drop_drop, cut, List.drop_append_of_le_length (by rw [List.length_map]; exact Nat.le_refl _), List.drop_of_length_le (by rw [List.length_map]; exact Nat.le_refl _)]
            exact pr'
          · exact ⟨(st3.ins.aside nxa).aside nxa, gd3⟩
          · rw [upd_same, List.length_map]
            show some (HO.lst ((acc.map V.int ++ [V.int ((KM.opStep st p xs).2.length : Int)]) ++ (KM.opStep st p xs).2.map V.int)) = _
            rw [List.append_assoc, List.map_append]
            rfl
          · rw [← eq, List.append_assoc]
            rfl
          · intro c o e
            have hc : c ≠ ad := fun z => by
              rw [z, had0] at e
              cases e
            rw [upd_ne hc, upd_ne hc]
            exact sm3 c o e
          · rw [List.length_append, List.length_cons]
            omega
          · show ((ls.length : Int) - ((pos + q : Nat) + (xs.length : Int))).toNat < ((ls.length : Int) - (pos : Int)).toNat
            omega
      · refine if_false_of (decide_eq_false (by omega)) ?_
        have : cs = [] := by
          rw [List.drop_eq_nil_of_le (by omega)] at pr
          cases pr
          rfl
        subst this
        refine ⟨_, rfl, k H2 ad ?_⟩
        rw [had, ← eq]
        show some (HO.lst _) = some (HO.lst ((acc ++ []).map V.int))
        rw [List.append_nil]
    · rintro σ H2 Q1 Q2 hq ⟨v, e1, v0, e0, p, ys, e2, e3, i, j, e4, e5, kk, e6, q⟩
      exact ⟨v, e1, v0, e0, p, ys, e2, e3, i, j, e4, e5, kk, e6, hq _ _ q⟩
end
end FG
namespace FG
open PySem PySem.Spec PyProof.Rows L2
/-- the table of how many numbers a call has -/
def countsOk (l : List DictEntry) : Bool := (List.range 20).all fun p => decide (p ∈ KM.lists) || (match findInt (p : Int) l with | some (.int c _) => c == (KM.cnt p : Int) | _ => false)
theorem counts_tab {K : PySem.W.Frag} {a : Addr} {es : Array DictEntry} {n : Nat} (d : K.lookup a = some ⟨.type "dict", none, .dict es n, #[]⟩) (i : intKeys es.toList = true) (h : countsOk es.toList = true) :
    ∀ p, p < 20 → p ∉ KM.lists → ∃ t, KTab K a (p : Int) (.int (KM.cnt p : Nat) t) := by
  intro p hp hl
  unfold countsOk at h
  rw [List.all_eq_true] at h
  have := h p (List.mem_range.mpr hp)
  rw [decide_eq_false hl, Bool.false_or] at this
  split at this
  · rename_i c t e
    have ec : c = (KM.cnt p : Int) := by simpa using this
    subst ec
    exact ⟨t, es, n, d, i, e⟩
  · cases this
theorem all_mk {P : Program} {w : World} {K : PySem.W.Frag} {h : Heap} {mg : Str → Option Value} {fa C f0 f1 f2 f3 f4 f5 f6 f7 f8 f9 f10 f11 f12 f13 f14 f15 f16 f17 f18 f19 f20 f21 f22 f23 f24 f25 f26 f27 f28 f29 f30 f31 f32 f33 f34 f35 f36 f37 f38 a_OPERATIONS a_LIST_CALLS a_NUMBER_COUNTS : Addr} (X : K.In h) (G : h.Ns mainGlobals mg) (hfa : mg "answers" = some (.ref fa))
    {od0 od1 od2 od3 od4 od5 od6 od7 od8 od9 od10 od11 od12 od13 od14 od15 od16 od17 od18 od19 od20 od21 od22 od23 od24 od25 od26 od27 od28 od29 od30 od31 od32 od33 od34 od35 od36 od37 od38 an0 an1 an2 an3 an4 an5 an6 an7 an8 an9 an10 an11 an12 an13 an14 an15 an16 an17 an18 an19 an20 an21 an22 an23 an24 an25 an26 an27 an28 an29 an30 an31 an32 an33 an34 an35 an36 an37 an38 : Option Addr} {sl0 sl1 sl2 sl3 sl4 sl5 sl6 sl7 sl8 sl9 sl10 sl11 sl12 sl13 sl14 sl15 sl16 sl17 sl18 sl19 sl20 sl21 sl22 sl23 sl24 sl25 sl26 sl27 sl28 sl29 sl30 sl31 sl32 sl33 sl34 sl35 sl36 sl37 sl38 : Array (Option Value)} {oc0 kV0 dc0 pm0 cd0 ct0 oc1 kV1 dc1 pm1 cd1 ct1 oc2 kV2 dc2 pm2 cd2 ct2 oc3 kV3 dc3 pm3 cd3 ct3 oc4 kV4 dc4 pm4 cd4 ct4 oc5 kV5 dc5 pm5 cd5 ct5 oc6 kV6 dc6 pm6 cd6 ct6 oc7 kV7 dc7 pm7 cd7 ct7 oc8 kV8 dc8 pm8 cd8 ct8 oc9 kV9 dc9 pm9 cd9 ct9 oc10 kV10 dc10 pm10 cd10 ct10 oc11 kV11 dc11 pm11 cd11 ct11 oc12 kV12 dc12 pm12 cd12 ct12 oc13 kV13 dc13 pm13 cd13 ct13 oc14 kV14 dc14 pm14 cd14 ct14 oc15 kV15 dc15 pm15 cd15 ct15 oc16 kV16 dc16 pm16 cd16 ct16 oc17 kV17 dc17 pm17 cd17 ct17 oc18 kV18 dc18 pm18 cd18 ct18 oc19 kV19 dc19 pm19 cd19 ct19 oc20 kV20 dc20 pm20 cd20 ct20 oc21 kV21 dc21 pm21 cd21 ct21 oc22 kV22 dc22 pm22 cd22 ct22 oc23 kV23 dc23 pm23 cd23 ct23 oc24 kV24 dc24 pm24 cd24 ct24 oc25 kV25 dc25 pm25 cd25 ct25 oc26 kV26 dc26 pm26 cd26 ct26 oc27 kV27 dc27 pm27 cd27 ct27 oc28 kV28 dc28 pm28 cd28 ct28 oc29 kV29 dc29 pm29 cd29 ct29 oc30 kV30 dc30 pm30 cd30 ct30 oc31 kV31 dc31 pm31 cd31 ct31 oc32 kV32 dc32 pm32 cd32 ct32 oc33 kV33 dc33 pm33 cd33 ct33 oc34 kV34 dc34 pm34 cd34 ct34 oc35 kV35 dc35 pm35 cd35 ct35 oc36 kV36 dc36 pm36 cd36 ct36 oc37 kV37 dc37 pm37 cd37 ct37 oc38 kV38 dc38 pm38 cd38 ct38 : Value}
    {t_MOST_GRADES t_MOST_FLOW t_NO_CURVE t_NOT_THERE t_OUT_OF_RANGE t_STAGE_THERE t_NO_BETTER_MOVE t_TOO_MANY_GRADES t_MOST_STAGES t_MOST_PERCENT t_MOST_GRADES_TO_COUNT t_SET_CURVE : Tok}
    {es_OPERATIONS : Array DictEntry} {nn_OPERATIONS : Nat}
    {od_LIST_CALLS : Option Addr} {its_LIST_CALLS : Array Value} {nn_LIST_CALLS : Nat} {sl_LIST_CALLS : Array (Option Value)}
    {es_NUMBER_COUNTS : Array DictEntry} {nn_NUMBER_COUNTS : Nat}
    (aC : PySem.W.nsIn K mainGlobals "Instance" = some (some (.ref C)))
    (a0 : PySem.W.nsIn K mainGlobals "is_curve" = some (some (.ref f0)))
    (l0 : K.lookup f0 = some ⟨oc0, od0, .func (PySem.W.fnOf "is_curve" "is_curve" (defArgs s_is_curve) (defBody s_is_curve) (defScope s_is_curve) .none kV0 dc0 pm0 an0 cd0 ct0), sl0⟩)
    (c0 : PySem.W.codeIn K cd0 "is_curve" = true)
    (k0 : PySem.W.keepIn K (.ref f0) = true)
    (a1 : PySem.W.nsIn K mainGlobals "are_stages" = some (some (.ref f1)))
    (l1 : K.lookup f1 = some ⟨oc1, od1, .func (PySem.W.fnOf "are_stages" "are_stages" (defArgs s_are_stages) (defBody s_are_stages) (defScope s_are_stages) .none kV1 dc1 pm1 an1 cd1 ct1), sl1⟩)
    (c1 : PySem.W.codeIn K cd1 "are_stages" = true)
    (k1 : PySem.W.keepIn K (.ref f1) = true)
    (a2 : PySem.W.nsIn K mainGlobals "power_over" = some (some (.ref f2)))
    (l2 : K.lookup f2 = some ⟨oc2, od2, .func (PySem.W.fnOf "power_over" "power_over" (defArgs s_power_over) (defBody s_power_over) (defScope s_power_over) .none kV2 dc2 pm2 an2 cd2 ct2), sl2⟩)
    (c2 : PySem.W.codeIn K cd2 "power_over" = true)
    (k2 : PySem.W.keepIn K (.ref f2) = true)
    (a3 : PySem.W.nsIn K mainGlobals "best_stages_over" = some (some (.ref f3)))
    (l3 : K.lookup f3 = some ⟨oc3, od3, .func (PySem.W.fnOf "best_stages_over" "best_stages_over" (defArgs s_best_stages_over) (defBody s_best_stages_over) (defScope s_best_stages_over) .none kV3 dc3 pm3 an3 cd3 ct3), sl3⟩)
    (c3 : PySem.W.codeIn K cd3 "best_stages_over" = true)
    (k3 : PySem.W.keepIn K (.ref f3) = true)
    (a4 : PySem.W.nsIn K mainGlobals "best_tail" = some (some (.ref f4)))
    (l4 : K.lookup f4 = some ⟨oc4, od4, .func (PySem.W.fnOf "best_tail" "best_tail" (defArgs s_best_tail) (defBody s_best_tail) (defScope s_best_tail) .none kV4 dc4 pm4 an4 cd4 ct4), sl4⟩)
    (c4 : PySem.W.codeIn K cd4 "best_tail" = true)
    (k4 : PySem.W.keepIn K (.ref f4) = true)
    (a5 : PySem.W.nsIn K mainGlobals "best_power_over" = some (some (.ref f5)))
    (l5 : K.lookup f5 = some ⟨oc5, od5, .func (PySem.W.fnOf "best_power_over" "best_power_over" (defArgs s_best_power_over) (defBody s_best_power_over) (defScope s_best_power_over) .none kV5 dc5 pm5 an5 cd5 ct5), sl5⟩)
    (c5 : PySem.W.codeIn K cd5 "best_power_over" = true)
    (k5 : PySem.W.keepIn K (.ref f5) = true)
    (a6 : PySem.W.nsIn K mainGlobals "stage_set_count" = some (some (.ref f6)))
    (l6 : K.lookup f6 = some ⟨oc6, od6, .func (PySem.W.fnOf "stage_set_count" "stage_set_count" (defArgs s_stage_set_count) (defBody s_stage_set_count) (defScope s_stage_set_count) .none kV6 dc6 pm6 an6 cd6 ct6), sl6⟩)
    (c6 : PySem.W.codeIn K cd6 "stage_set_count" = true)
    (k6 : PySem.W.keepIn K (.ref f6) = true)
    (a7 : PySem.W.nsIn K mainGlobals "best_count_over" = some (some (.ref f7)))
    (l7 : K.lookup f7 = some ⟨oc7, od7, .func (PySem.W.fnOf "best_count_over" "best_count_over" (defArgs s_best_count_over) (defBody s_best_count_over) (defScope s_best_count_over) .none kV7 dc7 pm7 an7 cd7 ct7), sl7⟩)
    (c7 : PySem.W.codeIn K cd7 "best_count_over" = true)
    (k7 : PySem.W.keepIn K (.ref f7) = true)
    (a8 : PySem.W.nsIn K mainGlobals "best_move_over" = some (some (.ref f8)))
    (l8 : K.lookup f8 = some ⟨oc8, od8, .func (PySem.W.fnOf "best_move_over" "best_move_over" (defArgs s_best_move_over) (defBody s_best_move_over) (defScope s_best_move_over) .none kV8 dc8 pm8 an8 cd8 ct8), sl8⟩)
    (c8 : PySem.W.codeIn K cd8 "best_move_over" = true)
    (k8 : PySem.W.keepIn K (.ref f8) = true)
    (a9 : PySem.W.nsIn K mainGlobals "free_grades" = some (some (.ref f9)))
    (l9 : K.lookup f9 = some ⟨oc9, od9, .func (PySem.W.fnOf "free_grades" "free_grades" (defArgs s_free_grades) (defBody s_free_grades) (defScope s_free_grades) .none kV9 dc9 pm9 an9 cd9 ct9), sl9⟩)
    (c9 : PySem.W.codeIn K cd9 "free_grades" = true)
    (k9 : PySem.W.keepIn K (.ref f9) = true)
    (a10 : PySem.W.findIn K (.ref C) "__init__" = some (some (.ref f10)))
    (i10 : PySem.W.isFn K (.ref f10) = true)
    (l10 : K.lookup f10 = some ⟨oc10, od10, .func (PySem.W.fnOf "__init__" "Instance.__init__" (defArgs s_Instance___init__) (defBody s_Instance___init__) (defScope s_Instance___init__) .none kV10 dc10 pm10 an10 cd10 ct10), sl10⟩)
    (c10 : PySem.W.codeIn K cd10 "Instance.__init__" = true)
    (k10 : PySem.W.keepIn K (.ref f10) = true)
    (a11 : PySem.W.findIn K (.ref C) "has_curve" = some (some (.ref f11)))
    (i11 : PySem.W.isFn K (.ref f11) = true)
    (l11 : K.lookup f11 = some ⟨oc11, od11, .func (PySem.W.fnOf "has_curve" "Instance.has_curve" (defArgs s_Instance_has_curve) (defBody s_Instance_has_curve) (defScope s_Instance_has_curve) .none kV11 dc11 pm11 an11 cd11 ct11), sl11⟩)
    (c11 : PySem.W.codeIn K cd11 "Instance.has_curve" = true)
    (k11 : PySem.W.keepIn K (.ref f11) = true)
    (a12 : PySem.W.findIn K (.ref C) "has_grade" = some (some (.ref f12)))
    (i12 : PySem.W.isFn K (.ref f12) = true)
    (l12 : K.lookup f12 = some ⟨oc12, od12, .func (PySem.W.fnOf "has_grade" "Instance.has_grade" (defArgs s_Instance_has_grade) (defBody s_Instance_has_grade) (defScope s_Instance_has_grade) .none kV12 dc12 pm12 an12 cd12 ct12), sl12⟩)
    (c12 : PySem.W.codeIn K cd12 "Instance.has_grade" = true)
    (k12 : PySem.W.keepIn K (.ref f12) = true)
    (a13 : PySem.W.findIn K (.ref C) "allows_count" = some (some (.ref f13)))
    (i13 : PySem.W.isFn K (.ref f13) = true)
    (l13 : K.lookup f13 = some ⟨oc13, od13, .func (PySem.W.fnOf "allows_count" "Instance.allows_count" (defArgs s_Instance_allows_count) (defBody s_Instance_allows_count) (defScope s_Instance_allows_count) .none kV13 dc13 pm13 an13 cd13 ct13), sl13⟩)
    (c13 : PySem.W.codeIn K cd13 "Instance.allows_count" = true)
    (k13 : PySem.W.keepIn K (.ref f13) = true)
    (a14 : PySem.W.findIn K (.ref C) "stages_power" = some (some (.ref f14)))
    (i14 : PySem.W.isFn K (.ref f14) = true)
    (l14 : K.lookup f14 = some ⟨oc14, od14, .func (PySem.W.fnOf "stages_power" "Instance.stages_power" (defArgs s_Instance_stages_power) (defBody s_Instance_stages_power) (defScope s_Instance_stages_power) .none kV14 dc14 pm14 an14 cd14 ct14), sl14⟩)
    (c14 : PySem.W.codeIn K cd14 "Instance.stages_power" = true)
    (k14 : PySem.W.keepIn K (.ref f14) = true)
    (a15 : PySem.W.nsIn K mainGlobals "set_curve" = some (some (.ref f15)))
    (l15 : K.lookup f15 = some ⟨oc15, od15, .func (PySem.W.fnOf "set_curve" "set_curve" (defArgs s_set_curve) (defBody s_set_curve) (defScope s_set_curve) .none kV15 dc15 pm15 an15 cd15 ct15), sl15⟩)
    (c15 : PySem.W.codeIn K cd15 "set_curve" = true)
    (k15 : PySem.W.keepIn K (.ref f15) = true)
    (a16 : PySem.W.nsIn K mainGlobals "set_flow" = some (some (.ref f16)))
    (l16 : K.lookup f16 = some ⟨oc16, od16, .func (PySem.W.fnOf "set_flow" "set_flow" (defArgs s_set_flow) (defBody s_set_flow) (defScope s_set_flow) .none kV16 dc16 pm16 an16 cd16 ct16), sl16⟩)
    (c16 : PySem.W.codeIn K cd16 "set_flow" = true)
    (k16 : PySem.W.keepIn K (.ref f16) = true)
    (a17 : PySem.W.nsIn K mainGlobals "truncate" = some (some (.ref f17)))
    (l17 : K.lookup f17 = some ⟨oc17, od17, .func (PySem.W.fnOf "truncate" "truncate" (defArgs s_truncate) (defBody s_truncate) (defScope s_truncate) .none kV17 dc17 pm17 an17 cd17 ct17), sl17⟩)
    (c17 : PySem.W.codeIn K cd17 "truncate" = true)
    (k17 : PySem.W.keepIn K (.ref f17) = true)
    (a18 : PySem.W.nsIn K mainGlobals "reduce_flows" = some (some (.ref f18)))
    (l18 : K.lookup f18 = some ⟨oc18, od18, .func (PySem.W.fnOf "reduce_flows" "reduce_flows" (defArgs s_reduce_flows) (defBody s_reduce_flows) (defScope s_reduce_flows) .none kV18 dc18 pm18 an18 cd18 ct18), sl18⟩)
    (c18 : PySem.W.codeIn K cd18 "reduce_flows" = true)
    (k18 : PySem.W.keepIn K (.ref f18) = true)
    (a19 : PySem.W.nsIn K mainGlobals "total_flow" = some (some (.ref f19)))
    (l19 : K.lookup f19 = some ⟨oc19, od19, .func (PySem.W.fnOf "total_flow" "total_flow" (defArgs s_total_flow) (defBody s_total_flow) (defScope s_total_flow) .none kV19 dc19 pm19 an19 cd19 ct19), sl19⟩)
    (c19 : PySem.W.codeIn K cd19 "total_flow" = true)
    (k19 : PySem.W.keepIn K (.ref f19) = true)
    (a20 : PySem.W.nsIn K mainGlobals "flow_at" = some (some (.ref f20)))
    (l20 : K.lookup f20 = some ⟨oc20, od20, .func (PySem.W.fnOf "flow_at" "flow_at" (defArgs s_flow_at) (defBody s_flow_at) (defScope s_flow_at) .none kV20 dc20 pm20 an20 cd20 ct20), sl20⟩)
    (c20 : PySem.W.codeIn K cd20 "flow_at" = true)
    (k20 : PySem.W.keepIn K (.ref f20) = true)
    (a21 : PySem.W.nsIn K mainGlobals "set_stages" = some (some (.ref f21)))
    (l21 : K.lookup f21 = some ⟨oc21, od21, .func (PySem.W.fnOf "set_stages" "set_stages" (defArgs s_set_stages) (defBody s_set_stages) (defScope s_set_stages) .none kV21 dc21 pm21 an21 cd21 ct21), sl21⟩)
    (c21 : PySem.W.codeIn K cd21 "set_stages" = true)
    (k21 : PySem.W.keepIn K (.ref f21) = true)
    (a22 : PySem.W.nsIn K mainGlobals "power" = some (some (.ref f22)))
    (l22 : K.lookup f22 = some ⟨oc22, od22, .func (PySem.W.fnOf "power" "power" (defArgs s_power) (defBody s_power) (defScope s_power) .none kV22 dc22 pm22 an22 cd22 ct22), sl22⟩)
    (c22 : PySem.W.codeIn K cd22 "power" = true)
    (k22 : PySem.W.keepIn K (.ref f22) = true)
    (a23 : PySem.W.nsIn K mainGlobals "power_of" = some (some (.ref f23)))
    (l23 : K.lookup f23 = some ⟨oc23, od23, .func (PySem.W.fnOf "power_of" "power_of" (defArgs s_power_of) (defBody s_power_of) (defScope s_power_of) .none kV23 dc23 pm23 an23 cd23 ct23), sl23⟩)
    (c23 : PySem.W.codeIn K cd23 "power_of" = true)
    (k23 : PySem.W.keepIn K (.ref f23) = true)
    (a24 : PySem.W.nsIn K mainGlobals "best_stages" = some (some (.ref f24)))
    (l24 : K.lookup f24 = some ⟨oc24, od24, .func (PySem.W.fnOf "best_stages" "best_stages" (defArgs s_best_stages) (defBody s_best_stages) (defScope s_best_stages) .none kV24 dc24 pm24 an24 cd24 ct24), sl24⟩)
    (c24 : PySem.W.codeIn K cd24 "best_stages" = true)
    (k24 : PySem.W.keepIn K (.ref f24) = true)
    (a25 : PySem.W.nsIn K mainGlobals "apply_best_stages" = some (some (.ref f25)))
    (l25 : K.lookup f25 = some ⟨oc25, od25, .func (PySem.W.fnOf "apply_best_stages" "apply_best_stages" (defArgs s_apply_best_stages) (defBody s_apply_best_stages) (defScope s_apply_best_stages) .none kV25 dc25 pm25 an25 cd25 ct25), sl25⟩)
    (c25 : PySem.W.codeIn K cd25 "apply_best_stages" = true)
    (k25 : PySem.W.keepIn K (.ref f25) = true)
    (a26 : PySem.W.nsIn K mainGlobals "marginal_power" = some (some (.ref f26)))
    (l26 : K.lookup f26 = some ⟨oc26, od26, .func (PySem.W.fnOf "marginal_power" "marginal_power" (defArgs s_marginal_power) (defBody s_marginal_power) (defScope s_marginal_power) .none kV26 dc26 pm26 an26 cd26 ct26), sl26⟩)
    (c26 : PySem.W.codeIn K cd26 "marginal_power" = true)
    (k26 : PySem.W.keepIn K (.ref f26) = true)
    (a27 : PySem.W.nsIn K mainGlobals "count_stage_sets" = some (some (.ref f27)))
    (l27 : K.lookup f27 = some ⟨oc27, od27, .func (PySem.W.fnOf "count_stage_sets" "count_stage_sets" (defArgs s_count_stage_sets) (defBody s_count_stage_sets) (defScope s_count_stage_sets) .none kV27 dc27 pm27 an27 cd27 ct27), sl27⟩)
    (c27 : PySem.W.codeIn K cd27 "count_stage_sets" = true)
    (k27 : PySem.W.keepIn K (.ref f27) = true)
    (a28 : PySem.W.nsIn K mainGlobals "best_stage_count" = some (some (.ref f28)))
    (l28 : K.lookup f28 = some ⟨oc28, od28, .func (PySem.W.fnOf "best_stage_count" "best_stage_count" (defArgs s_best_stage_count) (defBody s_best_stage_count) (defScope s_best_stage_count) .none kV28 dc28 pm28 an28 cd28 ct28), sl28⟩)
    (c28 : PySem.W.codeIn K cd28 "best_stage_count" = true)
    (k28 : PySem.W.keepIn K (.ref f28) = true)
    (a29 : PySem.W.nsIn K mainGlobals "reaches_share" = some (some (.ref f29)))
    (l29 : K.lookup f29 = some ⟨oc29, od29, .func (PySem.W.fnOf "reaches_share" "reaches_share" (defArgs s_reaches_share) (defBody s_reaches_share) (defScope s_reaches_share) .none kV29 dc29 pm29 an29 cd29 ct29), sl29⟩)
    (c29 : PySem.W.codeIn K cd29 "reaches_share" = true)
    (k29 : PySem.W.keepIn K (.ref f29) = true)
    (a30 : PySem.W.nsIn K mainGlobals "improve_stage" = some (some (.ref f30)))
    (l30 : K.lookup f30 = some ⟨oc30, od30, .func (PySem.W.fnOf "improve_stage" "improve_stage" (defArgs s_improve_stage) (defBody s_improve_stage) (defScope s_improve_stage) .none kV30 dc30 pm30 an30 cd30 ct30), sl30⟩)
    (c30 : PySem.W.codeIn K cd30 "improve_stage" = true)
    (k30 : PySem.W.keepIn K (.ref f30) = true)
    (a31 : PySem.W.nsIn K mainGlobals "add_stage" = some (some (.ref f31)))
    (l31 : K.lookup f31 = some ⟨oc31, od31, .func (PySem.W.fnOf "add_stage" "add_stage" (defArgs s_add_stage) (defBody s_add_stage) (defScope s_add_stage) .none kV31 dc31 pm31 an31 cd31 ct31), sl31⟩)
    (c31 : PySem.W.codeIn K cd31 "add_stage" = true)
    (k31 : PySem.W.keepIn K (.ref f31) = true)
    (a32 : PySem.W.nsIn K mainGlobals "remove_stage" = some (some (.ref f32)))
    (l32 : K.lookup f32 = some ⟨oc32, od32, .func (PySem.W.fnOf "remove_stage" "remove_stage" (defArgs s_remove_stage) (defBody s_remove_stage) (defScope s_remove_stage) .none kV32 dc32 pm32 an32 cd32 ct32), sl32⟩)
    (c32 : PySem.W.codeIn K cd32 "remove_stage" = true)
    (k32 : PySem.W.keepIn K (.ref f32) = true)
    (a33 : PySem.W.nsIn K mainGlobals "unused_power" = some (some (.ref f33)))
    (l33 : K.lookup f33 = some ⟨oc33, od33, .func (PySem.W.fnOf "unused_power" "unused_power" (defArgs s_unused_power) (defBody s_unused_power) (defScope s_unused_power) .none kV33 dc33 pm33 an33 cd33 ct33), sl33⟩)
    (c33 : PySem.W.codeIn K cd33 "unused_power" = true)
    (k33 : PySem.W.keepIn K (.ref f33) = true)
    (a34 : PySem.W.nsIn K mainGlobals "summary" = some (some (.ref f34)))
    (l34 : K.lookup f34 = some ⟨oc34, od34, .func (PySem.W.fnOf "summary" "summary" (defArgs s_summary) (defBody s_summary) (defScope s_summary) .none kV34 dc34 pm34 an34 cd34 ct34), sl34⟩)
    (c34 : PySem.W.codeIn K cd34 "summary" = true)
    (k34 : PySem.W.keepIn K (.ref f34) = true)
    (a35 : PySem.W.nsIn K mainGlobals "answers" = some (some (.ref f35)))
    (l35 : K.lookup f35 = some ⟨oc35, od35, .func (PySem.W.fnOf "answers" "answers" (defArgs s_answers) (defBody s_answers) (defScope s_answers) .none kV35 dc35 pm35 an35 cd35 ct35), sl35⟩)
    (c35 : PySem.W.codeIn K cd35 "answers" = true)
    (k35 : PySem.W.keepIn K (.ref f35) = true)
    (a36 : PySem.W.nsIn K mainGlobals "numbers_start" = some (some (.ref f36)))
    (l36 : K.lookup f36 = some ⟨oc36, od36, .func (PySem.W.fnOf "numbers_start" "numbers_start" (defArgs s_numbers_start) (defBody s_numbers_start) (defScope s_numbers_start) .none kV36 dc36 pm36 an36 cd36 ct36), sl36⟩)
    (c36 : PySem.W.codeIn K cd36 "numbers_start" = true)
    (k36 : PySem.W.keepIn K (.ref f36) = true)
    (a37 : PySem.W.nsIn K mainGlobals "number_count" = some (some (.ref f37)))
    (l37 : K.lookup f37 = some ⟨oc37, od37, .func (PySem.W.fnOf "number_count" "number_count" (defArgs s_number_count) (defBody s_number_count) (defScope s_number_count) .none kV37 dc37 pm37 an37 cd37 ct37), sl37⟩)
    (c37 : PySem.W.codeIn K cd37 "number_count" = true)
    (k37 : PySem.W.keepIn K (.ref f37) = true)
    (a38 : PySem.W.nsIn K mainGlobals "answer_call" = some (some (.ref f38)))
    (l38 : K.lookup f38 = some ⟨oc38, od38, .func (PySem.W.fnOf "answer_call" "answer_call" (defArgs s_answer_call) (defBody s_answer_call) (defScope s_answer_call) .none kV38 dc38 pm38 an38 cd38 ct38), sl38⟩)
    (c38 : PySem.W.codeIn K cd38 "answer_call" = true)
    (k38 : PySem.W.keepIn K (.ref f38) = true)
    (pg : PySem.W.plainGet K C Str.empty = true)
    (hd : PySem.W.hasDictIn K C = true)
    (po : PySem.W.plainOver K C = true)
    (sa : PySem.W.findIn K (.ref C) "__setattr__" = some (some (.builtin "object.__setattr__")))
    (mk : PySem.W.makesIn K C = true)
    (kc : PySem.W.keepIn K (.ref C) = true)
    (na_flows : PySem.W.findIn K (.ref C) "flows" = some none)
    (na_stages : PySem.W.findIn K (.ref C) "stages" = some none)
    (n_len : PySem.W.nsIn K mainGlobals "len" = some none)
    (n_list : PySem.W.nsIn K mainGlobals "list" = some none)
    (n_max : PySem.W.nsIn K mainGlobals "max" = some none)
    (n_range : PySem.W.nsIn K mainGlobals "range" = some none)
    (n_sorted : PySem.W.nsIn K mainGlobals "sorted" = some none)
    (n_sum : PySem.W.nsIn K mainGlobals "sum" = some none)
    (e_MOST_GRADES : PySem.W.nsIn K mainGlobals "MOST_GRADES" = some (some (.int (16) t_MOST_GRADES)))
    (e_MOST_FLOW : PySem.W.nsIn K mainGlobals "MOST_FLOW" = some (some (.int (1000) t_MOST_FLOW)))
    (e_NO_CURVE : PySem.W.nsIn K mainGlobals "NO_CURVE" = some (some (.int (-11) t_NO_CURVE)))
    (e_NOT_THERE : PySem.W.nsIn K mainGlobals "NOT_THERE" = some (some (.int (-2) t_NOT_THERE)))
    (e_OUT_OF_RANGE : PySem.W.nsIn K mainGlobals "OUT_OF_RANGE" = some (some (.int (-22) t_OUT_OF_RANGE)))
    (e_STAGE_THERE : PySem.W.nsIn K mainGlobals "STAGE_THERE" = some (some (.int (-17) t_STAGE_THERE)))
    (e_NO_BETTER_MOVE : PySem.W.nsIn K mainGlobals "NO_BETTER_MOVE" = some (some (.int (-33) t_NO_BETTER_MOVE)))
    (e_TOO_MANY_GRADES : PySem.W.nsIn K mainGlobals "TOO_MANY_GRADES" = some (some (.int (-75) t_TOO_MANY_GRADES)))
    (e_MOST_STAGES : PySem.W.nsIn K mainGlobals "MOST_STAGES" = some (some (.int (5) t_MOST_STAGES)))
    (e_MOST_PERCENT : PySem.W.nsIn K mainGlobals "MOST_PERCENT" = some (some (.int (100) t_MOST_PERCENT)))
    (e_MOST_GRADES_TO_COUNT : PySem.W.nsIn K mainGlobals "MOST_GRADES_TO_COUNT" = some (some (.int (8) t_MOST_GRADES_TO_COUNT)))
    (e_SET_CURVE : PySem.W.nsIn K mainGlobals "SET_CURVE" = some (some (.int (0) t_SET_CURVE)))
    (e_OPERATIONS : PySem.W.nsIn K mainGlobals "OPERATIONS" = some (some (.ref a_OPERATIONS)))
    (d_OPERATIONS : K.lookup a_OPERATIONS = some ⟨.type "dict", none, .dict es_OPERATIONS nn_OPERATIONS, #[]⟩)
    (e_LIST_CALLS : PySem.W.nsIn K mainGlobals "LIST_CALLS" = some (some (.ref a_LIST_CALLS)))
    (d_LIST_CALLS : K.lookup a_LIST_CALLS = some ⟨.type "tuple", od_LIST_CALLS, .seq its_LIST_CALLS nn_LIST_CALLS, sl_LIST_CALLS⟩)
    (e_NUMBER_COUNTS : PySem.W.nsIn K mainGlobals "NUMBER_COUNTS" = some (some (.ref a_NUMBER_COUNTS)))
    (d_NUMBER_COUNTS : K.lookup a_NUMBER_COUNTS = some ⟨.type "dict", none, .dict es_NUMBER_COUNTS nn_NUMBER_COUNTS, #[]⟩)
    (vLC : Vals [.int 0, .int 6, .int 8] its_LIST_CALLS.toList)
    (zLC : its_LIST_CALLS.size ≤ sizeLine)
    (tNC : FG.countsOk es_NUMBER_COUNTS.toList = true)
    (iNC : FG.intKeys es_NUMBER_COUNTS.toList = true)
    (iOP : FG.intKeys es_OPERATIONS.toList = true)
    (o0 : FG.findInt 0 es_OPERATIONS.toList = some (.ref f15))
    (o1 : FG.findInt 1 es_OPERATIONS.toList = some (.ref f16))
    (o2 : FG.findInt 2 es_OPERATIONS.toList = some (.ref f17))
    (o3 : FG.findInt 3 es_OPERATIONS.toList = some (.ref f18))
    (o4 : FG.findInt 4 es_OPERATIONS.toList = some (.ref f19))
    (o5 : FG.findInt 5 es_OPERATIONS.toList = some (.ref f20))
    (o6 : FG.findInt 6 es_OPERATIONS.toList = some (.ref f21))
    (o7 : FG.findInt 7 es_OPERATIONS.toList = some (.ref f22))
    (o8 : FG.findInt 8 es_OPERATIONS.toList = some (.ref f23))
    (o9 : FG.findInt 9 es_OPERATIONS.toList = some (.ref f24))
    (o10 : FG.findInt 10 es_OPERATIONS.toList = some (.ref f25))
    (o11 : FG.findInt 11 es_OPERATIONS.toList = some (.ref f26))
    (o12 : FG.findInt 12 es_OPERATIONS.toList = some (.ref f27))
    (o13 : FG.findInt 13 es_OPERATIONS.toList = some (.ref f28))
    (o14 : FG.findInt 14 es_OPERATIONS.toList = some (.ref f29))
    (o15 : FG.findInt 15 es_OPERATIONS.toList = some (.ref f30))
    (o16 : FG.findInt 16 es_OPERATIONS.toList = some (.ref f31))
    (o17 : FG.findInt 17 es_OPERATIONS.toList = some (.ref f32))
    (o18 : FG.findInt 18 es_OPERATIONS.toList = some (.ref f33))
    (o19 : FG.findInt 19 es_OPERATIONS.toList = some (.ref f34))
    : ∃ fd : FuncData, (∀ (s : Shared) (us : List Value), us.length = (["calls"] : List Str).length → BindsTo s fd ⟨us, []⟩ ((["calls"] : List Str).zip us)) ∧ ∀ base : Heap, K.In base → base.Ns mainGlobals mg → FnOk P w K mg base CX0 7 fa fd ["calls"] (spAns K) := by
  have e := hfa.symm.trans (PySem.W.mg_of X G a35)
  cases e
  have T : Txt K mg C a_LIST_CALLS a_NUMBER_COUNTS a_OPERATIONS := { n_len := PySem.W.mg_none_of X G n_len, n_list := PySem.W.mg_none_of X G n_list, n_max := PySem.W.mg_none_of X G n_max, n_range := PySem.W.mg_none_of X G n_range, n_sorted := PySem.W.mg_none_of X G n_sorted, n_sum := PySem.W.mg_none_of X G n_sum, c_MOST_GRADES := ⟨_, PySem.W.mg_of X G e_MOST_GRADES⟩, c_MOST_FLOW := ⟨_, PySem.W.mg_of X G e_MOST_FLOW⟩, c_NO_CURVE := ⟨_, PySem.W.mg_of X G e_NO_CURVE⟩, c_NOT_THERE := ⟨_, PySem.W.mg_of X G e_NOT_THERE⟩, c_OUT_OF_RANGE := ⟨_, PySem.W.mg_of X G e_OUT_OF_RANGE⟩, c_STAGE_THERE := ⟨_, PySem.W.mg_of X G e_STAGE_THERE⟩, c_NO_BETTER_MOVE := ⟨_, PySem.W.mg_of X G e_NO_BETTER_MOVE⟩, c_TOO_MANY_GRADES := ⟨_, PySem.W.mg_of X G e_TOO_MANY_GRADES⟩, c_MOST_STAGES := ⟨_, PySem.W.mg_of X G e_MOST_STAGES⟩, c_MOST_PERCENT := ⟨_, PySem.W.mg_of X G e_MOST_PERCENT⟩, c_MOST_GRADES_TO_COUNT := ⟨_, PySem.W.mg_of X G e_MOST_GRADES_TO_COUNT⟩, c_SET_CURVE := ⟨_, PySem.W.mg_of X G e_SET_CURVE⟩, c_OPERATIONS := PySem.W.mg_of X G e_OPERATIONS, c_LIST_CALLS := PySem.W.mg_of X G e_LIST_CALLS, c_NUMBER_COUNTS := PySem.W.mg_of X G e_NUMBER_COUNTS, cl_Instance := ⟨pg, hd, po, sa⟩, na_flows := na_flows, na_stages := na_stages }
  have B : Tab K a_LIST_CALLS a_NUMBER_COUNTS := ⟨⟨_, _, _, d_LIST_CALLS, rfl, rfl, zLC, vLC⟩, counts_tab d_NUMBER_COUNTS iNC tNC⟩
  have F_is_curve := fun_mk (st := s_is_curve) l0 c0 k0
  have b_is_curve := F_is_curve.binds (ps := ["flows"]) fun _ _ _ _ _ _ us hl => match us, hl with | [_], _ => rfl
  have F_are_stages := fun_mk (st := s_are_stages) l1 c1 k1
  have b_are_stages := F_are_stages.binds (ps := ["grades", "grade_count"]) fun _ _ _ _ _ _ us hl => match us, hl with | [_, _], _ => rfl
  have F_power_over := fun_mk (st := s_power_over) l2 c2 k2
  have b_power_over := F_power_over.binds (ps := ["flows", "grades"]) fun _ _ _ _ _ _ us hl => match us, hl with | [_, _], _ => rfl
  have F_best_stages_over := fun_mk (st := s_best_stages_over) l3 c3 k3
  have b_best_stages_over := F_best_stages_over.binds (ps := ["flows", "count"]) fun _ _ _ _ _ _ us hl => match us, hl with | [_, _], _ => rfl
  have F_best_tail := fun_mk (st := s_best_tail) l4 c4 k4
  have b_best_tail := F_best_tail.binds (ps := ["flows", "below", "tails"]) fun _ _ _ _ _ _ us hl => match us, hl with | [_, _, _], _ => rfl
  have F_best_power_over := fun_mk (st := s_best_power_over) l5 c5 k5
  have b_best_power_over := F_best_power_over.binds (ps := ["flows", "count"]) fun _ _ _ _ _ _ us hl => match us, hl with | [_, _], _ => rfl
  have F_stage_set_count := fun_mk (st := s_stage_set_count) l6 c6 k6
  have b_stage_set_count := F_stage_set_count.binds (ps := ["grade_count", "count"]) fun _ _ _ _ _ _ us hl => match us, hl with | [_, _], _ => rfl
  have F_best_count_over := fun_mk (st := s_best_count_over) l7 c7 k7
  have b_best_count_over := F_best_count_over.binds (ps := ["flows", "stage_cost"]) fun _ _ _ _ _ _ us hl => match us, hl with | [_, _], _ => rfl
  have F_best_move_over := fun_mk (st := s_best_move_over) l8 c8 k8
  have b_best_move_over := F_best_move_over.binds (ps := ["flows", "grades"]) fun _ _ _ _ _ _ us hl => match us, hl with | [_, _], _ => rfl
  have F_free_grades := fun_mk (st := s_free_grades) l9 c9 k9
  have b_free_grades := F_free_grades.binds (ps := ["grades", "index", "grade_count"]) fun _ _ _ _ _ _ us hl => match us, hl with | [_, _, _], _ => rfl
  have F_Instance___init__ := fun_mk (st := s_Instance___init__) l10 c10 k10
  have b_Instance___init__ := F_Instance___init__.binds (ps := ["self"]) fun _ _ _ _ _ _ us hl => match us, hl with | [_], _ => rfl
  have F_Instance_has_curve := fun_mk (st := s_Instance_has_curve) l11 c11 k11
  have b_Instance_has_curve := F_Instance_has_curve.binds (ps := ["self"]) fun _ _ _ _ _ _ us hl => match us, hl with | [_], _ => rfl
  have F_Instance_has_grade := fun_mk (st := s_Instance_has_grade) l12 c12 k12
  have b_Instance_has_grade := F_Instance_has_grade.binds (ps := ["self", "grade"]) fun _ _ _ _ _ _ us hl => match us, hl with | [_, _], _ => rfl
  have F_Instance_allows_count := fun_mk (st := s_Instance_allows_count) l13 c13 k13
  have b_Instance_allows_count := F_Instance_allows_count.binds (ps := ["self", "count"]) fun _ _ _ _ _ _ us hl => match us, hl with | [_, _], _ => rfl
  have F_Instance_stages_power := fun_mk (st := s_Instance_stages_power) l14 c14 k14
  have b_Instance_stages_power := F_Instance_stages_power.binds (ps := ["self"]) fun _ _ _ _ _ _ us hl => match us, hl with | [_], _ => rfl
  have F_set_curve := fun_mk (st := s_set_curve) l15 c15 k15
  have b_set_curve := F_set_curve.binds (ps := ["instance", "numbers"]) fun _ _ _ _ _ _ us hl => match us, hl with | [_, _], _ => rfl
  have F_set_flow := fun_mk (st := s_set_flow) l16 c16 k16
  have b_set_flow := F_set_flow.binds (ps := ["instance", "numbers"]) fun _ _ _ _ _ _ us hl => match us, hl with | [_, _], _ => rfl
  have F_truncate := fun_mk (st := s_truncate) l17 c17 k17
  have b_truncate := F_truncate.binds (ps := ["instance", "numbers"]) fun _ _ _ _ _ _ us hl => match us, hl with | [_, _], _ => rfl
  have F_reduce_flows := fun_mk (st := s_reduce_flows) l18 c18 k18
  have b_reduce_flows := F_reduce_flows.binds (ps := ["instance", "numbers"]) fun _ _ _ _ _ _ us hl => match us, hl with | [_, _], _ => rfl
  have F_total_flow := fun_mk (st := s_total_flow) l19 c19 k19
  have b_total_flow := F_total_flow.binds (ps := ["instance", "numbers"]) fun _ _ _ _ _ _ us hl => match us, hl with | [_, _], _ => rfl
  have F_flow_at := fun_mk (st := s_flow_at) l20 c20 k20
  have b_flow_at := F_flow_at.binds (ps := ["instance", "numbers"]) fun _ _ _ _ _ _ us hl => match us, hl with | [_, _], _ => rfl
  have F_set_stages := fun_mk (st := s_set_stages) l21 c21 k21
  have b_set_stages := F_set_stages.binds (ps := ["instance", "numbers"]) fun _ _ _ _ _ _ us hl => match us, hl with | [_, _], _ => rfl
  have F_power := fun_mk (st := s_power) l22 c22 k22
  have b_power := F_power.binds (ps := ["instance", "numbers"]) fun _ _ _ _ _ _ us hl => match us, hl with | [_, _], _ => rfl
  have F_power_of := fun_mk (st := s_power_of) l23 c23 k23
  have b_power_of := F_power_of.binds (ps := ["instance", "numbers"]) fun _ _ _ _ _ _ us hl => match us, hl with | [_, _], _ => rfl
  have F_best_stages := fun_mk (st := s_best_stages) l24 c24 k24
  have b_best_stages := F_best_stages.binds (ps := ["instance", "numbers"]) fun _ _ _ _ _ _ us hl => match us, hl with | [_, _], _ => rfl
  have F_apply_best_stages := fun_mk (st := s_apply_best_stages) l25 c25 k25
  have b_apply_best_stages := F_apply_best_stages.binds (ps := ["instance", "numbers"]) fun _ _ _ _ _ _ us hl => match us, hl with | [_, _], _ => rfl
  have F_marginal_power := fun_mk (st := s_marginal_power) l26 c26 k26
  have b_marginal_power := F_marginal_power.binds (ps := ["instance", "numbers"]) fun _ _ _ _ _ _ us hl => match us, hl with | [_, _], _ => rfl
  have F_count_stage_sets := fun_mk (st := s_count_stage_sets) l27 c27 k27
  have b_count_stage_sets := F_count_stage_sets.binds (ps := ["instance", "numbers"]) fun _ _ _ _ _ _ us hl => match us, hl with | [_, _], _ => rfl
  have F_best_stage_count := fun_mk (st := s_best_stage_count) l28 c28 k28
  have b_best_stage_count := F_best_stage_count.binds (ps := ["instance", "numbers"]) fun _ _ _ _ _ _ us hl => match us, hl with | [_, _], _ => rfl
  have F_reaches_share := fun_mk (st := s_reaches_share) l29 c29 k29
  have b_reaches_share := F_reaches_share.binds (ps := ["instance", "numbers"]) fun _ _ _ _ _ _ us hl => match us, hl with | [_, _], _ => rfl
  have F_improve_stage := fun_mk (st := s_improve_stage) l30 c30 k30
  have b_improve_stage := F_improve_stage.binds (ps := ["instance", "numbers"]) fun _ _ _ _ _ _ us hl => match us, hl with | [_, _], _ => rfl
  have F_add_stage := fun_mk (st := s_add_stage) l31 c31 k31
  have b_add_stage := F_add_stage.binds (ps := ["instance", "numbers"]) fun _ _ _ _ _ _ us hl => match us, hl with | [_, _], _ => rfl
  have F_remove_stage := fun_mk (st := s_remove_stage) l32 c32 k32
  have b_remove_stage := F_remove_stage.binds (ps := ["instance", "numbers"]) fun _ _ _ _ _ _ us hl => match us, hl with | [_, _], _ => rfl
  have F_unused_power := fun_mk (st := s_unused_power) l33 c33 k33
  have b_unused_power := F_unused_power.binds (ps := ["instance", "numbers"]) fun _ _ _ _ _ _ us hl => match us, hl with | [_, _], _ => rfl
  have F_summary := fun_mk (st := s_summary) l34 c34 k34
  have b_summary := F_summary.binds (ps := ["instance", "numbers"]) fun _ _ _ _ _ _ us hl => match us, hl with | [_, _], _ => rfl
  have F_answers := fun_mk (st := s_answers) l35 c35 k35
  have F_numbers_start := fun_mk (st := s_numbers_start) l36 c36 k36
  have b_numbers_start := F_numbers_start.binds (ps := ["calls", "position"]) fun _ _ _ _ _ _ us hl => match us, hl with | [_, _], _ => rfl
  have F_number_count := fun_mk (st := s_number_count) l37 c37 k37
  have b_number_count := F_number_count.binds (ps := ["calls", "position"]) fun _ _ _ _ _ _ us hl => match us, hl with | [_, _], _ => rfl
  have F_answer_call := fun_mk (st := s_answer_call) l38 c38 k38
  have b_answer_call := F_answer_call.binds (ps := ["instance", "call", "numbers"]) fun _ _ _ _ _ _ us hl => match us, hl with | [_, _, _], _ => rfl
  refine ⟨PySem.W.fnOf "answers" "answers" (defArgs s_answers) (defBody s_answers) (defScope s_answers) .none kV35 dc35 pm35 an35 cd35 ct35, fun s us hu => match us, hu with | [_], _ => .of_eq rfl, fun base _ _ => ?_⟩
  have G_is_curve : DefN P w K mg base 1 "is_curve" ["flows"] (spIsCurve K) := ⟨_, _, (ok_is_curve F_is_curve T), PySem.W.mg_of X G a0, k0, b_is_curve⟩
  have G_are_stages : DefN P w K mg base 1 "are_stages" ["grades", "grade_count"] (spAre K) := ⟨_, _, (ok_are_stages F_are_stages T), PySem.W.mg_of X G a1, k1, b_are_stages⟩
  have G_power_over : DefN P w K mg base 1 "power_over" ["flows", "grades"] (spPower K) := ⟨_, _, (ok_power_over F_power_over), PySem.W.mg_of X G a2, k2, b_power_over⟩
  have G_best_tail : DefN P w K mg base 1 "best_tail" ["flows", "below", "tails"] (spTail K) := ⟨_, _, (ok_best_tail F_best_tail T), PySem.W.mg_of X G a4, k4, b_best_tail⟩
  have G_stage_set_count : DefN P w K mg base 1 "stage_set_count" ["grade_count", "count"] (spCh) := ⟨_, _, (ok_stage_set_count F_stage_set_count T), PySem.W.mg_of X G a6, k6, b_stage_set_count⟩
  have G_free_grades : DefN P w K mg base 1 "free_grades" ["grades", "index", "grade_count"] (spFree K) := ⟨_, _, (ok_free_grades F_free_grades T), PySem.W.mg_of X G a9, k9, b_free_grades⟩
  have G_Instance___init__ : MakeN P w K mg base 1 C "Instance" ["self"] (spInit C) := ⟨_, _, (ok_init F_Instance___init__ T), ⟨mk, a10, i10, kc⟩, PySem.W.mg_of X G aC, b_Instance___init__⟩
  have M_Instance_has_curve : MethN P w K mg base 1 C "has_curve" ["self"] (spHasCurve C) := ⟨_, _, (ok_has_curve F_Instance_has_curve T), ⟨a11, i11, k11⟩, b_Instance_has_curve⟩
  have M_Instance_has_grade : MethN P w K mg base 1 C "has_grade" ["self", "grade"] (spHasGrade C) := ⟨_, _, (ok_has_grade F_Instance_has_grade T), ⟨a12, i12, k12⟩, b_Instance_has_grade⟩
  have M_Instance_allows_count : MethN P w K mg base 1 C "allows_count" ["self", "count"] (spAllows C) := ⟨_, _, (ok_allows_count F_Instance_allows_count T), ⟨a13, i13, k13⟩, b_Instance_allows_count⟩
  have H_reduce_flows : Held P w K mg base 5 f18 (spOp C 3) := ⟨_, _, ((ok_reduce_flows F_reduce_flows T)).mono (by decide), k18, b_reduce_flows⟩
  have H_total_flow : Held P w K mg base 5 f19 (spOp C 4) := ⟨_, _, ((ok_total_flow F_total_flow T)).mono (by decide), k19, b_total_flow⟩
  have H_summary : Held P w K mg base 5 f34 (spOp C 19) := ⟨_, _, ((ok_summary F_summary T)).mono (by decide), k34, b_summary⟩
  have G_numbers_start : DefN P w K mg base 1 "numbers_start" ["calls", "position"] (spStart K) := ⟨_, _, (ok_numbers_start F_numbers_start T B), PySem.W.mg_of X G a36, k36, b_numbers_start⟩
  have G_number_count : DefN P w K mg base 1 "number_count" ["calls", "position"] (spCount K) := ⟨_, _, (ok_number_count F_number_count T B), PySem.W.mg_of X G a37, k37, b_number_count⟩
  have G_best_stages_over : DefN P w K mg base 2 "best_stages_over" ["flows", "count"] (spBest K) := ⟨_, _, (ok_best_stages_over F_best_stages_over T G_best_tail), PySem.W.mg_of X G a3, k3, b_best_stages_over⟩
  have G_best_move_over : DefN P w K mg base 2 "best_move_over" ["flows", "grades"] (spMove K) := ⟨_, _, (ok_best_move_over F_best_move_over T G_power_over G_free_grades), PySem.W.mg_of X G a8, k8, b_best_move_over⟩
  have M_Instance_stages_power : MethN P w K mg base 2 C "stages_power" ["self"] (spSPow C) := ⟨_, _, (ok_stages_power F_Instance_stages_power T G_power_over), ⟨a14, i14, k14⟩, b_Instance_stages_power⟩
  have H_set_curve : Held P w K mg base 5 f15 (spOp C 0) := ⟨_, _, ((ok_set_curve F_set_curve T G_is_curve)).mono (by decide), k15, b_set_curve⟩
  have H_set_flow : Held P w K mg base 5 f16 (spOp C 1) := ⟨_, _, ((ok_set_flow F_set_flow T G_is_curve M_Instance_has_grade)).mono (by decide), k16, b_set_flow⟩
  have H_truncate : Held P w K mg base 5 f17 (spOp C 2) := ⟨_, _, ((ok_truncate F_truncate T M_Instance_has_grade)).mono (by decide), k17, b_truncate⟩
  have H_flow_at : Held P w K mg base 5 f20 (spOp C 5) := ⟨_, _, ((ok_flow_at F_flow_at T M_Instance_has_grade)).mono (by decide), k20, b_flow_at⟩
  have H_power_of : Held P w K mg base 5 f23 (spOp C 8) := ⟨_, _, ((ok_power_of F_power_of T G_are_stages G_power_over)).mono (by decide), k23, b_power_of⟩
  have H_count_stage_sets : Held P w K mg base 5 f27 (spOp C 12) := ⟨_, _, ((ok_count_stage_sets F_count_stage_sets T M_Instance_allows_count G_stage_set_count)).mono (by decide), k27, b_count_stage_sets⟩
  have G_best_power_over : DefN P w K mg base 3 "best_power_over" ["flows", "count"] (spBP K) := ⟨_, _, (ok_best_power_over F_best_power_over G_best_stages_over), PySem.W.mg_of X G a5, k5, b_best_power_over⟩
  have H_set_stages : Held P w K mg base 5 f21 (spOp C 6) := ⟨_, _, ((ok_set_stages F_set_stages T G_are_stages M_Instance_stages_power)).mono (by decide), k21, b_set_stages⟩
  have H_power : Held P w K mg base 5 f22 (spOp C 7) := ⟨_, _, ((ok_power F_power T M_Instance_stages_power)).mono (by decide), k22, b_power⟩
  have H_best_stages : Held P w K mg base 5 f24 (spOp C 9) := ⟨_, _, ((ok_best_stages F_best_stages T M_Instance_allows_count G_best_stages_over)).mono (by decide), k24, b_best_stages⟩
  have H_apply_best_stages : Held P w K mg base 5 f25 (spOp C 10) := ⟨_, _, ((ok_apply_best_stages F_apply_best_stages T M_Instance_allows_count G_best_stages_over M_Instance_stages_power)).mono (by decide), k25, b_apply_best_stages⟩
  have H_improve_stage : Held P w K mg base 5 f30 (spOp C 15) := ⟨_, _, ((ok_improve_stage F_improve_stage T G_best_move_over)).mono (by decide), k30, b_improve_stage⟩
  have H_add_stage : Held P w K mg base 5 f31 (spOp C 16) := ⟨_, _, ((ok_add_stage F_add_stage T M_Instance_has_grade M_Instance_stages_power)).mono (by decide), k31, b_add_stage⟩
  have H_remove_stage : Held P w K mg base 5 f32 (spOp C 17) := ⟨_, _, ((ok_remove_stage F_remove_stage T M_Instance_stages_power)).mono (by decide), k32, b_remove_stage⟩
  have H_unused_power : Held P w K mg base 5 f33 (spOp C 18) := ⟨_, _, ((ok_unused_power F_unused_power T M_Instance_stages_power)).mono (by decide), k33, b_unused_power⟩
  have G_best_count_over : DefN P w K mg base 4 "best_count_over" ["flows", "stage_cost"] (spBC K) := ⟨_, _, (ok_best_count_over F_best_count_over T G_best_power_over), PySem.W.mg_of X G a7, k7, b_best_count_over⟩
  have H_marginal_power : Held P w K mg base 5 f26 (spOp C 11) := ⟨_, _, ((ok_marginal_power F_marginal_power T M_Instance_allows_count G_best_power_over)).mono (by decide), k26, b_marginal_power⟩
  have H_reaches_share : Held P w K mg base 5 f29 (spOp C 14) := ⟨_, _, ((ok_reaches_share F_reaches_share T M_Instance_allows_count G_best_power_over)).mono (by decide), k29, b_reaches_share⟩
  have H_best_stage_count : Held P w K mg base 5 f28 (spOp C 13) := ⟨_, _, ((ok_best_stage_count F_best_stage_count T G_best_count_over)).mono (by decide), k28, b_best_stage_count⟩
  have Ops : ∀ p : Nat, p < 20 → ∃ g, KTab K a_OPERATIONS (p : Int) (.ref g) ∧ Held P w K mg base 5 g (spOp C p) := by
    intro p hp
    have : p = 0 ∨ p = 1 ∨ p = 2 ∨ p = 3 ∨ p = 4 ∨ p = 5 ∨ p = 6 ∨ p = 7 ∨ p = 8 ∨ p = 9 ∨ p = 10 ∨ p = 11 ∨ p = 12 ∨ p = 13 ∨ p = 14 ∨ p = 15 ∨ p = 16 ∨ p = 17 ∨ p = 18 ∨ p = 19 := by omega
    rcases this with rfl | rfl | rfl | rfl | rfl | rfl | rfl | rfl | rfl | rfl | rfl | rfl | rfl | rfl | rfl | rfl | rfl | rfl | rfl | rfl
    · exact ⟨_, ⟨_, _, d_OPERATIONS, iOP, o0⟩, H_set_curve⟩
    · exact ⟨_, ⟨_, _, d_OPERATIONS, iOP, o1⟩, H_set_flow⟩
    · exact ⟨_, ⟨_, _, d_OPERATIONS, iOP, o2⟩, H_truncate⟩
    · exact ⟨_, ⟨_, _, d_OPERATIONS, iOP, o3⟩, H_reduce_flows⟩
    · exact ⟨_, ⟨_, _, d_OPERATIONS, iOP, o4⟩, H_total_flow⟩
    · exact ⟨_, ⟨_, _, d_OPERATIONS, iOP, o5⟩, H_flow_at⟩
    · exact ⟨_, ⟨_, _, d_OPERATIONS, iOP, o6⟩, H_set_stages⟩
    · exact ⟨_, ⟨_, _, d_OPERATIONS, iOP, o7⟩, H_power⟩
    · exact ⟨_, ⟨_, _, d_OPERATIONS, iOP, o8⟩, H_power_of⟩
    · exact ⟨_, ⟨_, _, d_OPERATIONS, iOP, o9⟩, H_best_stages⟩
    · exact ⟨_, ⟨_, _, d_OPERATIONS, iOP, o10⟩, H_apply_best_stages⟩
    · exact ⟨_, ⟨_, _, d_OPERATIONS, iOP, o11⟩, H_marginal_power⟩
    · exact ⟨_, ⟨_, _, d_OPERATIONS, iOP, o12⟩, H_count_stage_sets⟩
    · exact ⟨_, ⟨_, _, d_OPERATIONS, iOP, o13⟩, H_best_stage_count⟩
    · exact ⟨_, ⟨_, _, d_OPERATIONS, iOP, o14⟩, H_reaches_share⟩
    · exact ⟨_, ⟨_, _, d_OPERATIONS, iOP, o15⟩, H_improve_stage⟩
    · exact ⟨_, ⟨_, _, d_OPERATIONS, iOP, o16⟩, H_add_stage⟩
    · exact ⟨_, ⟨_, _, d_OPERATIONS, iOP, o17⟩, H_remove_stage⟩
    · exact ⟨_, ⟨_, _, d_OPERATIONS, iOP, o18⟩, H_unused_power⟩
    · exact ⟨_, ⟨_, _, d_OPERATIONS, iOP, o19⟩, H_summary⟩
  have G_answer_call : DefN P w K mg base 6 "answer_call" ["instance", "call", "numbers"] (spCall C 20) := ⟨_, _, (ok_answer_call F_answer_call T M_Instance_has_curve Ops), PySem.W.mg_of X G a38, k38, b_answer_call⟩
  exact ok_answers F_answers T G_Instance___init__ G_numbers_start G_number_count G_answer_call
end FG
open PySem PySem.W PyProof.Rows
set_option maxRecDepth 100000 in
set_option maxHeartbeats 8000000 in
theorem PySem.Challenge.cw_flashgrades_s01_answers_holds : PySem.Challenge.rw_flashgrades_s01_answers.Holds := by
  w_on; k_headS; (case hw => exact ⟨[.list [.int 4]], by decide +kernel, by decide +kernel⟩)
  k_fillS
  refine L2.walk_specK (r := PySem.Challenge.rw_flashgrades_s01_answers) (k := 7) (CX := L2.CX0) (ps := ["calls"]) (sp := FG.spAns) (by decide +kernel) rfl rfl ⟨rfl, by decide, by decide⟩ (fun w h Y => PySem.W.kIn_of Y) ?F ?S (fun _ _ _ _ z => z)
  case F =>
    intro w mg fa h Y KX G hmg
    refine' FG.all_mk KX G hmg ?aC ?a0 ?l0 ?c0 ?k0 ?a1 ?l1 ?c1 ?k1 ?a2 ?l2 ?c2 ?k2 ?a3 ?l3 ?c3 ?k3 ?a4 ?l4 ?c4 ?k4 ?a5 ?l5 ?c5 ?k5 ?a6 ?l6 ?c6 ?k6 ?a7 ?l7 ?c7 ?k7 ?a8 ?l8 ?c8 ?k8 ?a9 ?l9 ?c9 ?k9 ?a10 ?i10 ?l10 ?c10 ?k10 ?a11 ?i11 ?l11 ?c11 ?k11 ?a12 ?i12 ?l12 ?c12 ?k12 ?a13 ?i13 ?l13 ?c13 ?k13 ?a14 ?i14 ?l14 ?c14 ?k14 ?a15 ?l15 ?c15 ?k15 ?a16 ?l16 ?c16 ?k16 ?a17 ?l17 ?c17 ?k17 ?a18 ?l18 ?c18 ?k18 ?a19 ?l19 ?c19 ?k19 ?a20 ?l20 ?c20 ?k20 ?a21 ?l21 ?c21 ?k21 ?a22 ?l22 ?c22 ?k22 ?a23 ?l23 ?c23 ?k23 ?a24 ?l24 ?c24 ?k24 ?a25 ?l25 ?c25 ?k25 ?a26 ?l26 ?c26 ?k26 ?a27 ?l27 ?c27 ?k27 ?a28 ?l28 ?c28 ?k28 ?a29 ?l29 ?c29 ?k29 ?a30 ?l30 ?c30 ?k30 ?a31 ?l31 ?c31 ?k31 ?a32 ?l32 ?c32 ?k32 ?a33 ?l33 ?c33 ?k33 ?a34 ?l34 ?c34 ?k34 ?a35 ?l35 ?c35 ?k35 ?a36 ?l36 ?c36 ?k36 ?a37 ?l37 ?c37 ?k37 ?a38 ?l38 ?c38 ?k38 ?pg ?hd ?po ?sa ?mk ?kc ?na_flows ?na_stages ?n_len ?n_list ?n_max ?n_range ?n_sorted ?n_sum ?e_MOST_GRADES ?e_MOST_FLOW ?e_NO_CURVE ?e_NOT_THERE ?e_OUT_OF_RANGE ?e_STAGE_THERE ?e_NO_BETTER_MOVE ?e_TOO_MANY_GRADES ?e_MOST_STAGES ?e_MOST_PERCENT ?e_MOST_GRADES_TO_COUNT ?e_SET_CURVE ?e_OPERATIONS ?d_OPERATIONS ?e_LIST_CALLS ?d_LIST_CALLS ?e_NUMBER_COUNTS ?d_NUMBER_COUNTS ?vLC ?zLC ?tNC ?iNC ?iOP ?o0 ?o1 ?o2 ?o3 ?o4 ?o5 ?o6 ?o7 ?o8 ?o9 ?o10 ?o11 ?o12 ?o13 ?o14 ?o15 ?o16 ?o17 ?o18 ?o19
    (case aC => k_is)
    (case a0 => k_is)
    (case l0 => k_is)
    (case c0 => k_is)
    (case k0 => k_is)
    (case a1 => k_is)
    (case l1 => k_is)
    (case c1 => k_is)
    (case k1 => k_is)
    (case a2 => k_is)
    (case l2 => k_is)
    (case c2 => k_is)
    (case k2 => k_is)
    (case a3 => k_is)
    (case l3 => k_is)
    (case c3 => k_is)
    (case k3 => k_is)
    (case a4 => k_is)
    (case l4 => k_is)
    (case c4 => k_is)
    (case k4 => k_is)
    (case a5 => k_is)
    (case l5 => k_is)
    (case c5 => k_is)
    (case k5 => k_is)
    (case a6 => k_is)
    (case l6 => k_is)
    (case c6 => k_is)
    (case k6 => k_is)
    (case a7 => k_is)
    (case l7 => k_is)
    (case c7 => k_is)
    (case k7 => k_is)
    (case a8 => k_is)
    (case l8 => k_is)
    (case c8 => k_is)
    (case k8 => k_is)
    (case a9 => k_is)
    (case l9 => k_is)
    (case c9 => k_is)
    (case k9 => k_is)
    (case a10 => k_is)
    (case i10 => k_is)
    (case l10 => k_is)
    (case c10 => k_is)
    (case k10 => k_is)
    (case a11 => k_is)
    (case i11 => k_is)
    (case l11 => k_is)
    (case c11 => k_is)
    (case k11 => k_is)
    (case a12 => k_is)
    (case i12 => k_is)
    (case l12 => k_is)
    (case c12 => k_is)
    (case k12 => k_is)
    (case a13 => k_is)
    (case i13 => k_is)
    (case l13 => k_is)
    (case c13 => k_is)
    (case k13 => k_is)
    (case a14 => k_is)
    (case i14 => k_is)
    (case l14 => k_is)
    (case c14 => k_is)
    (case k14 => k_is)
    (case a15 => k_is)
    (case l15 => k_is)
    (case c15 => k_is)
    (case k15 => k_is)
    (case a16 => k_is)
    (case l16 => k_is)
    (case c16 => k_is)
    (case k16 => k_is)
    (case a17 => k_is)
    (case l17 => k_is)
    (case c17 => k_is)
    (case k17 => k_is)
    (case a18 => k_is)
    (case l18 => k_is)
    (case c18 => k_is)
    (case k18 => k_is)
    (case a19 => k_is)
    (case l19 => k_is)
    (case c19 => k_is)
    (case k19 => k_is)
    (case a20 => k_is)
    (case l20 => k_is)
    (case c20 => k_is)
    (case k20 => k_is)
    (case a21 => k_is)
    (case l21 => k_is)
    (case c21 => k_is)
    (case k21 => k_is)
    (case a22 => k_is)
    (case l22 => k_is)
    (case c22 => k_is)
    (case k22 => k_is)
    (case a23 => k_is)
    (case l23 => k_is)
    (case c23 => k_is)
    (case k23 => k_is)
    (case a24 => k_is)
    (case l24 => k_is)
    (case c24 => k_is)
    (case k24 => k_is)
    (case a25 => k_is)
    (case l25 => k_is)
    (case c25 => k_is)
    (case k25 => k_is)
    (case a26 => k_is)
    (case l26 => k_is)
    (case c26 => k_is)
    (case k26 => k_is)
    (case a27 => k_is)
    (case l27 => k_is)
    (case c27 => k_is)
    (case k27 => k_is)
    (case a28 => k_is)
    (case l28 => k_is)
    (case c28 => k_is)
    (case k28 => k_is)
    (case a29 => k_is)
    (case l29 => k_is)
    (case c29 => k_is)
    (case k29 => k_is)
    (case a30 => k_is)
    (case l30 => k_is)
    (case c30 => k_is)
    (case k30 => k_is)
    (case a31 => k_is)
    (case l31 => k_is)
    (case c31 => k_is)
    (case k31 => k_is)
    (case a32 => k_is)
    (case l32 => k_is)
    (case c32 => k_is)
    (case k32 => k_is)
    (case a33 => k_is)
    (case l33 => k_is)
    (case c33 => k_is)
    (case k33 => k_is)
    (case a34 => k_is)
    (case l34 => k_is)
    (case c34 => k_is)
    (case k34 => k_is)
    (case a35 => k_is)
    (case l35 => k_is)
    (case c35 => k_is)
    (case k35 => k_is)
    (case a36 => k_is)
    (case l36 => k_is)
    (case c36 => k_is)
    (case k36 => k_is)
    (case a37 => k_is)
    (case l37 => k_is)
    (case c37 => k_is)
    (case k37 => k_is)
    (case a38 => k_is)
    (case l38 => k_is)
    (case c38 => k_is)
    (case k38 => k_is)
    (case pg => k_is)
    (case hd => k_is)
    (case po => k_is)
    (case sa => k_is)
    (case mk => k_is)
    (case kc => k_is)
    (case na_flows => k_is)
    (case na_stages => k_is)
    (case n_len => k_is)
    (case n_list => k_is)
    (case n_max => k_is)
    (case n_range => k_is)
    (case n_sorted => k_is)
    (case n_sum => k_is)
    (case e_MOST_GRADES => k_is)
    (case e_MOST_FLOW => k_is)
    (case e_NO_CURVE => k_is)
    (case e_NOT_THERE => k_is)
    (case e_OUT_OF_RANGE => k_is)
    (case e_STAGE_THERE => k_is)
    (case e_NO_BETTER_MOVE => k_is)
    (case e_TOO_MANY_GRADES => k_is)
    (case e_MOST_STAGES => k_is)
    (case e_MOST_PERCENT => k_is)
    (case e_MOST_GRADES_TO_COUNT => k_is)
    (case e_SET_CURVE => k_is)
    (case e_OPERATIONS => k_is)
    (case d_OPERATIONS => k_is)
    (case e_LIST_CALLS => k_is)
    (case d_LIST_CALLS => k_is)
    (case e_NUMBER_COUNTS => k_is)
    (case d_NUMBER_COUNTS => k_is)
    (case vLC => exact .cons ⟨_, rfl⟩ (.cons ⟨_, rfl⟩ (.cons ⟨_, rfl⟩ .nil)))
    (case zLC => decide +kernel)
    (case tNC => decide +kernel)
    (case iNC => decide +kernel)
    (case iOP => decide +kernel)
    (case o0 => rfl)
    (case o1 => rfl)
    (case o2 => rfl)
    (case o3 => rfl)
    (case o4 => rfl)
    (case o5 => rfl)
    (case o6 => rfl)
    (case o7 => rfl)
    (case o8 => rfl)
    (case o9 => rfl)
    (case o10 => rfl)
    (case o11 => rfl)
    (case o12 => rfl)
    (case o13 => rfl)
    (case o14 => rfl)
    (case o15 => rfl)
    (case o16 => rfl)
    (case o17 => rfl)
    (case o18 => rfl)
    (case o19 => rfl)
  case S =>
    intro K H xs a hO hwi hask hx
    cases hx with
    | cons h1 h2 =>
      cases h2
      cases h1 with
      | lst hs ha =>
        have e := L2.ints_dw a.1 _ ha
        subst e
        have q : ((Codec.inLen 0 12500 a.1 && a.1.all (Codec.inInt 0 4294967295)) && true) = true := hwi
        rw [Bool.and_eq_true, Bool.and_eq_true] at q
        exact ⟨_, a.1, rfl, hs, (Codec.inNat_iff.mp q.1.1).2, hask, fun H' p hp => .lst (L2.SqL.of hp) (L2.dw_ints _)⟩
#print axioms PySem.Challenge.cw_flashgrades_s01_answers_holds
