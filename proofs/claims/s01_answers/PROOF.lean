import PyProof.Rows.All
import Wide.All
import OpenK.AllK
import Wide.FinOn
import Open.SpecLaws
import KE.OsGo
import HandS.ForSpec
import HandS.ForMost
import HandS.Evl
import HandS.Deep
import HandS.TupSets
import KE.SortData
import HandS.Conv
import HandS.Walk
import HandS.SetFor
import HandS.Zip
import KE.KTabLook
import PySem.Challenge.RW_plainerlines_s01_answers
set_option Elab.async false
set_option linter.all false
set_option maxRecDepth 100000
set_option maxHeartbeats 4000000
namespace Geo
open Mm01
/-! the program's shapes as plain functions -/
def lmin : List Int → Int
  | [] => 0
  | [a] => a
  | a :: b :: l => min a (lmin (b :: l))
def lmax : List Int → Int
  | [] => 0
  | [a] => a
  | a :: b :: l => max a (lmax (b :: l))
theorem lmin_mem : ∀ (l : List Int), l ≠ [] → lmin l ∈ l
  | [], h => absurd rfl h
  | [a], _ => by simp [lmin]
  | a :: b :: l, _ => by
    have ih := lmin_mem (b :: l) (by simp)
    show min a (lmin (b :: l)) ∈ a :: b :: l
    by_cases h : a ≤ lmin (b :: l)
    · rw [Int.min_eq_left h]; simp
    · rw [Int.min_eq_right (by omega)]; exact List.mem_cons_of_mem _ ih
theorem lmin_le : ∀ (l : List Int) (x : Int), x ∈ l → lmin l ≤ x
  | [], x, h => by cases h
  | [a], x, h => by
    have e : x = a := by simpa using h
    subst e; exact Int.le_refl _
  | a :: b :: l, x, h => by
    show min a (lmin (b :: l)) ≤ x
    cases h with
    | head => omega
    | tail _ h =>
      have ih := lmin_le (b :: l) x h
      omega
theorem lmin_eq {l : List Int} {m : Int} (h1 : m ∈ l) (h2 : ∀ x ∈ l, m ≤ x) : m = lmin l := by
  have ne : l ≠ [] := by intro e; subst e; cases h1
  have a := h2 _ (lmin_mem l ne)
  have b := lmin_le l m h1
  omega
theorem lmax_mem : ∀ (l : List Int), l ≠ [] → lmax l ∈ l
  | [], h => absurd rfl h
  | [a], _ => by simp [lmax]
  | a :: b :: l, _ => by
    have ih := lmax_mem (b :: l) (by simp)
    show max a (lmax (b :: l)) ∈ a :: b :: l
    by_cases h : lmax (b :: l) ≤ a
    · rw [Int.max_eq_left h]; simp
    · rw [Int.max_eq_right (by omega)]; exact List.mem_cons_of_mem _ ih
theorem le_lmax : ∀ (l : List Int) (x : Int), x ∈ l → x ≤ lmax l
  | [], x, h => by cases h
  | [a], x, h => by
    have e : x = a := by simpa using h
    subst e; exact Int.le_refl _
  | a :: b :: l, x, h => by
    show x ≤ max a (lmax (b :: l))
    cases h with
    | head => omega
    | tail _ h =>
      have ih := le_lmax (b :: l) x h
      omega
theorem lmax_eq {l : List Int} {m : Int} (h1 : m ∈ l) (h2 : ∀ x ∈ l, x ≤ m) : m = lmax l := by
  have ne : l ≠ [] := by intro e; subst e; cases h1
  have a := h2 _ (lmax_mem l ne)
  have b := le_lmax l m h1
  omega
/-- in_box -/
def inBox (p : Place) (cs : List Place) : Bool :=
  (decide (lmin (cs.map (·.1)) ≤ p.1) && decide (p.1 ≤ lmax (cs.map (·.1)))) &&
  (decide (lmin (cs.map (·.2)) ≤ p.2) && decide (p.2 ≤ lmax (cs.map (·.2))))
/-- in_triangle -/
def inTri (p a b c : Place) : Bool :=
  if lmin [turn a b p, turn b c p, turn c a p] < 0 ∧ lmax [turn a b p, turn b c p, turn c a p] > 0 then false
  else inBox p [a, b, c]
def onStretch (p : Place) (s : Place × Place) : Bool := decide (turn s.1 s.2 p = 0) && inBox p [s.1, s.2]
def twoSides (s o : Place × Place) : Bool := decide (turn s.1 s.2 o.1 * turn s.1 s.2 o.2 < 0)
def stMeet (s o : Place × Place) : Bool :=
  if onStretch s.1 o || onStretch s.2 o then true
  else if onStretch o.1 s || onStretch o.2 s then true
  else twoSides s o && twoSides o s
def runsBack (b s : Place × Place) : Bool := onStretch s.2 b || onStretch b.1 s
theorem inBox_two (p a b : Place) : inBox p [a, b] = within a b p := by
  simp only [inBox, within, lmin, lmax, List.map]
  simp only [Bool.and_assoc]
theorem onStretch_eq (p : Place) (s : Place × Place) : onStretch p s = on s.1 s.2 p := by
  unfold onStretch on
  rw [inBox_two]
  congr 1
theorem sign_mul (x y : Int) : (sign x * sign y == -1) = decide (x * y < 0) := by
  have key : (sign x * sign y = -1) ↔ x * y < 0 := by
    unfold sign
    by_cases hx : 0 < x
    · by_cases hy : 0 < y
      · have := Int.mul_pos hx hy
        simp [hx, hy]; omega
      · by_cases hy2 : y < 0
        · have := Int.mul_neg_of_pos_of_neg hx hy2
          simp [hx, hy, hy2]; omega
        · have : y = 0 := by omega
          subst this; simp
    · by_cases hx2 : x < 0
      · by_cases hy : 0 < y
        · have := Int.mul_neg_of_neg_of_pos hx2 hy
          simp [hx, hx2, hy]; omega
        · by_cases hy2 : y < 0
          · have := Int.mul_pos_of_neg_of_neg hx2 hy2
            simp [hx, hx2, hy, hy2]; omega
          · have : y = 0 := by omega
            subst this; simp
      · have : x = 0 := by omega
        subst this; simp
  rw [Bool.eq_iff_iff, beq_iff_eq, decide_eq_true_iff]
  exact key
theorem stMeet_eq (s o : Place × Place) : stMeet s o = meet s.1 s.2 o.1 o.2 := by
  unfold stMeet meet twoSides
  simp only [onStretch_eq, sign_mul]
  generalize on o.1 o.2 s.1 = a
  generalize on o.1 o.2 s.2 = b
  generalize on s.1 s.2 o.1 = c
  generalize on s.1 s.2 o.2 = d
  cases a <;> cases b <;> cases c <;> cases d <;> simp
theorem stMeet_comm (s o : Place × Place) : stMeet s o = stMeet o s := by
  unfold stMeet
  generalize onStretch s.1 o = a
  generalize onStretch s.2 o = b
  generalize onStretch o.1 s = c
  generalize onStretch o.2 s = d
  cases a <;> cases b <;> cases c <;> cases d <;> simp [Bool.and_comm]
theorem within_comm (a b p : Place) : within a b p = within b a p := by
  unfold within
  rw [Int.min_comm a.1, Int.max_comm a.1, Int.min_comm a.2, Int.max_comm a.2]
theorem turn_swap (a b p : Place) : turn b a p = - turn a b p := by unfold turn; grind
theorem on_comm (a b p : Place) : on a b p = on b a p := by
  unfold on
  rw [within_comm, turn_swap b a p]
  congr 1
  rw [Bool.eq_iff_iff, beq_iff_eq, beq_iff_eq]
  omega
/-- two in a row: the common point is the first's end and the second's beginning -/
theorem runsBack_eq (x c y : Place) : runsBack (x, c) (c, y) = (on c x y || on c y x) := by
  unfold runsBack
  rw [onStretch_eq, onStretch_eq]
  show (on x c y || on c y x) = _
  rw [on_comm x c y]
theorem turn_sum (a b c p : Place) : turn a b p + turn b c p + turn c a p = turn a b c := by unfold turn; grind
theorem bary1 (a b c p : Place) : turn a b c * p.1 = turn b c p * a.1 + turn c a p * b.1 + turn a b p * c.1 := by unfold turn; grind
theorem bary2 (a b c p : Place) : turn a b c * p.2 = turn b c p * a.2 + turn c a p * b.2 + turn a b p * c.2 := by unfold turn; grind
/-- a mean with weights lies between -/
theorem mean_between {t u v w x a b c lo hi : Int} (ht : 0 < t) (hu : 0 ≤ u) (hv : 0 ≤ v) (hw : 0 ≤ w) (s : u + v + w = t)
    (e : t * x = u * a + v * b + w * c) (ha : lo ≤ a ∧ a ≤ hi) (hb : lo ≤ b ∧ b ≤ hi) (hc : lo ≤ c ∧ c ≤ hi) : lo ≤ x ∧ x ≤ hi := by
  have l1 := Int.mul_le_mul_of_nonneg_left ha.1 hu
  have l2 := Int.mul_le_mul_of_nonneg_left hb.1 hv
  have l3 := Int.mul_le_mul_of_nonneg_left hc.1 hw
  have r1 := Int.mul_le_mul_of_nonneg_left ha.2 hu
  have r2 := Int.mul_le_mul_of_nonneg_left hb.2 hv
  have r3 := Int.mul_le_mul_of_nonneg_left hc.2 hw
  have el : t * lo = u * lo + v * lo + w * lo := by rw [← s]; grind
  have er : t * hi = u * hi + v * hi + w * hi := by rw [← s]; grind
  constructor
  · exact Int.le_of_mul_le_mul_left (by omega : t * lo ≤ t * x) ht
  · exact Int.le_of_mul_le_mul_left (by omega : t * x ≤ t * hi) ht
end Geo
namespace Geo
open Mm01
theorem sign_nonneg (x : Int) : (0 ≤ sign x) ↔ 0 ≤ x := by
  unfold sign; split
  · constructor <;> intro <;> omega
  · split <;> constructor <;> intro <;> omega
theorem sign_nonpos (x : Int) : (sign x ≤ 0) ↔ x ≤ 0 := by
  unfold sign; split
  · constructor <;> intro <;> omega
  · split <;> constructor <;> intro <;> omega
theorem mixed_iff (x y z : Int) : (lmin [x, y, z] < 0 ∧ lmax [x, y, z] > 0) ↔ ¬ ((0 ≤ x ∧ 0 ≤ y ∧ 0 ≤ z) ∨ (x ≤ 0 ∧ y ≤ 0 ∧ z ≤ 0)) := by
  simp only [lmin, lmax]; omega
theorem mul_zero_of {a b : Int} (h : a * b = 0) (ha : a ≠ 0) : b = 0 := by
  rcases Int.mul_eq_zero.mp h with h | h
  · exact absurd h ha
  · exact h
theorem ne_place {a b : Place} (h : a ≠ b) : b.1 - a.1 ≠ 0 ∨ b.2 - a.2 ≠ 0 := by
  by_cases h1 : b.1 - a.1 = 0
  · by_cases h2 : b.2 - a.2 = 0
    · exact absurd (Prod.ext (by omega) (by omega)) h
    · exact Or.inr h2
  · exact Or.inl h1
/-- three on one straight: a and b apart, c and p on theirs -/
theorem straight {a b c p : Place} (h : a ≠ b) (h1 : turn a b c = 0) (h2 : turn a b p = 0) : turn b c p = 0 ∧ turn c a p = 0 := by
  have e1 : (b.1 - a.1) * turn b c p = 0 := by unfold turn at *; grind
  have e2 : (b.2 - a.2) * turn b c p = 0 := by unfold turn at *; grind
  have r : turn b c p = 0 := by
    rcases ne_place h with h | h
    · exact mul_zero_of e1 h
    · exact mul_zero_of e2 h
  have s := turn_sum a b c p
  exact ⟨r, by omega⟩
/-- on a straight that isn't upright, between by x is between -/
theorem between_x {a b p : Place} (h : turn a b p = 0) (hne : a.1 ≠ b.1) (h1 : min a.1 b.1 ≤ p.1) (h2 : p.1 ≤ max a.1 b.1) : within a b p = true := by
  have e : (b.1 - a.1) * (p.2 - a.2) = (b.2 - a.2) * (p.1 - a.1) := by unfold turn at h; grind
  have fin : min a.2 b.2 ≤ p.2 ∧ p.2 ≤ max a.2 b.2 := by
    by_cases q : a.1 < b.1
    · have d : 0 < b.1 - a.1 := by omega
      have s0 : 0 ≤ p.1 - a.1 := by omega
      have s1 : 0 ≤ b.1 - p.1 := by omega
      have m := mean_between (t := b.1 - a.1) (u := b.1 - p.1) (v := p.1 - a.1) (w := 0) (x := p.2) (a := a.2) (b := b.2) (c := a.2) (lo := min a.2 b.2) (hi := max a.2 b.2)
        d s1 s0 (by omega) (by omega) (by grind) (by omega) (by omega) (by omega)
      exact m
    · have d : 0 < a.1 - b.1 := by omega
      have s0 : 0 ≤ a.1 - p.1 := by omega
      have s1 : 0 ≤ p.1 - b.1 := by omega
      have m := mean_between (t := a.1 - b.1) (u := p.1 - b.1) (v := a.1 - p.1) (w := 0) (x := p.2) (a := a.2) (b := b.2) (c := a.2) (lo := min a.2 b.2) (hi := max a.2 b.2)
        d s1 s0 (by omega) (by omega) (by grind) (by omega) (by omega) (by omega)
      exact m
  unfold within
  simp only [Bool.and_eq_true, decide_eq_true_iff]
  exact ⟨h1, h2, fin.1, fin.2⟩
theorem within_iff (a b p : Place) : within a b p = true ↔ (min a.1 b.1 ≤ p.1 ∧ p.1 ≤ max a.1 b.1 ∧ min a.2 b.2 ≤ p.2 ∧ p.2 ≤ max a.2 b.2) := by
  unfold within
  simp only [Bool.and_eq_true, decide_eq_true_iff]
theorem inBox3_iff (p a b c : Place) : inBox p [a, b, c] = true ↔ (min a.1 (min b.1 c.1) ≤ p.1 ∧ p.1 ≤ max a.1 (max b.1 c.1) ∧ min a.2 (min b.2 c.2) ≤ p.2 ∧ p.2 ≤ max a.2 (max b.2 c.2)) := by
  simp only [inBox, lmin, lmax, List.map, Bool.and_eq_true, decide_eq_true_iff, and_assoc]
theorem pick_x {a b c p : Int} (h1 : min a (min b c) ≤ p) (h2 : p ≤ max a (max b c)) (c1 : ¬ (a ≠ b ∧ min a b ≤ p ∧ p ≤ max a b)) (c2 : ¬ (b ≠ c ∧ min b c ≤ p ∧ p ≤ max b c)) (c3 : ¬ (a ≠ c ∧ min a c ≤ p ∧ p ≤ max a c)) : a = p ∧ b = p ∧ c = p := by
  omega
theorem pick_y {a b c p : Int} (h1 : min a (min b c) ≤ p) (h2 : p ≤ max a (max b c)) : (min a b ≤ p ∧ p ≤ max a b) ∨ (min b c ≤ p ∧ p ≤ max b c) ∨ (min a c ≤ p ∧ p ≤ max a c) := by
  omega
theorem pick_back {a b c p : Int} (h : (min a b ≤ p ∧ p ≤ max a b) ∨ (min b c ≤ p ∧ p ≤ max b c) ∨ (min a c ≤ p ∧ p ≤ max a c)) : min a (min b c) ≤ p ∧ p ≤ max a (max b c) := by
  omega
theorem inTri_eq {a b c p : Place} (hab : a ≠ b) (hbc : b ≠ c) (hac : a ≠ c) : inTri p a b c = inTriangle a b c p := by
  have s := turn_sum a b c p
  have cyc1 : turn b c a = turn a b c := by unfold turn; grind
  have cyc2 : turn a c p = - turn c a p := turn_swap c a p
  have cyc3 : turn a c b = - turn a b c := by unfold turn; grind
  have b1 := bary1 a b c p
  have b2 := bary2 a b c p
  unfold inTri inTriangle
  simp only [mixed_iff]
  by_cases hT : turn a b c = 0
  · rw [if_pos hT]
    by_cases hm : (0 ≤ turn a b p ∧ 0 ≤ turn b c p ∧ 0 ≤ turn c a p) ∨ (turn a b p ≤ 0 ∧ turn b c p ≤ 0 ∧ turn c a p ≤ 0)
    · rw [if_neg (not_not_intro hm)]
      have x0 : turn a b p = 0 := by omega
      have y0 : turn b c p = 0 := by omega
      have z0 : turn a c p = 0 := by omega
      simp only [on, x0, y0, z0, beq_self_eq_true, Bool.true_and]
      rw [Bool.eq_iff_iff, inBox3_iff]
      simp only [Bool.or_eq_true]
      constructor
      · rintro ⟨h1, h2, h3, h4⟩
        by_cases c1 : a.1 ≠ b.1 ∧ min a.1 b.1 ≤ p.1 ∧ p.1 ≤ max a.1 b.1
        · exact Or.inl (between_x x0 c1.1 c1.2.1 c1.2.2)
        · by_cases c2 : b.1 ≠ c.1 ∧ min b.1 c.1 ≤ p.1 ∧ p.1 ≤ max b.1 c.1
          · exact Or.inr (Or.inl (between_x y0 c2.1 c2.2.1 c2.2.2))
          · by_cases c3 : a.1 ≠ c.1 ∧ min a.1 c.1 ≤ p.1 ∧ p.1 ≤ max a.1 c.1
            · exact Or.inr (Or.inr (between_x z0 c3.1 c3.2.1 c3.2.2))
            · obtain ⟨e1, e2, e3⟩ := pick_x h1 h2 c1 c2 c3
              simp only [within_iff, e1, e2, e3]
              rcases pick_y h3 h4 with h | h | h
              · exact Or.inl ⟨by omega, by omega, h.1, h.2⟩
              · exact Or.inr (Or.inl ⟨by omega, by omega, h.1, h.2⟩)
              · exact Or.inr (Or.inr ⟨by omega, by omega, h.1, h.2⟩)
      · simp only [within_iff]
        rintro (h | h | h)
        · have u := pick_back (a := a.1) (b := b.1) (c := c.1) (p := p.1) (Or.inl ⟨h.1, h.2.1⟩)
          have v := pick_back (a := a.2) (b := b.2) (c := c.2) (p := p.2) (Or.inl ⟨h.2.2.1, h.2.2.2⟩)
          exact ⟨u.1, u.2, v.1, v.2⟩
        · have u := pick_back (a := a.1) (b := b.1) (c := c.1) (p := p.1) (Or.inr (Or.inl ⟨h.1, h.2.1⟩))
          have v := pick_back (a := a.2) (b := b.2) (c := c.2) (p := p.2) (Or.inr (Or.inl ⟨h.2.2.1, h.2.2.2⟩))
          exact ⟨u.1, u.2, v.1, v.2⟩
        · have u := pick_back (a := a.1) (b := b.1) (c := c.1) (p := p.1) (Or.inr (Or.inr ⟨h.1, h.2.1⟩))
          have v := pick_back (a := a.2) (b := b.2) (c := c.2) (p := p.2) (Or.inr (Or.inr ⟨h.2.2.1, h.2.2.2⟩))
          exact ⟨u.1, u.2, v.1, v.2⟩
    · rw [if_pos hm]
      symm
      simp only [on]
      have k1 : turn a b p ≠ 0 := fun h => by
        have := straight hab hT h
        omega
      have k2 : turn b c p ≠ 0 := fun h => by
        have := straight hbc (cyc1.trans hT) h
        omega
      have k3 : turn a c p ≠ 0 := fun h => by
        have := straight hac (by omega : turn a c b = 0) h
        have := turn_swap c b p
        have := turn_swap b a p
        omega
      simp [k1, k2, k3]
  · rw [if_neg hT]
    simp only [sign_nonneg, sign_nonpos]
    by_cases hm : (0 ≤ turn a b p ∧ 0 ≤ turn b c p ∧ 0 ≤ turn c a p) ∨ (turn a b p ≤ 0 ∧ turn b c p ≤ 0 ∧ turn c a p ≤ 0)
    · rw [if_neg (not_not_intro hm)]
      have R : (decide (0 ≤ turn a b p) && (decide (0 ≤ turn b c p) && decide (0 ≤ turn c a p)) || decide (turn a b p ≤ 0) && (decide (turn b c p ≤ 0) && decide (turn c a p ≤ 0))) = true := by
        simp only [Bool.or_eq_true, Bool.and_eq_true, decide_eq_true_iff]
        exact hm
      rw [R, inBox3_iff]
      rcases hm with ⟨h1, h2, h3⟩ | ⟨h1, h2, h3⟩
      · have m1 := mean_between (lo := min a.1 (min b.1 c.1)) (hi := max a.1 (max b.1 c.1)) (by omega) h2 h3 h1 (by omega) b1 (by omega) (by omega) (by omega)
        have m2 := mean_between (lo := min a.2 (min b.2 c.2)) (hi := max a.2 (max b.2 c.2)) (by omega) h2 h3 h1 (by omega) b2 (by omega) (by omega) (by omega)
        exact ⟨m1.1, m1.2, m2.1, m2.2⟩
      · have m1 := mean_between (t := - turn a b c) (u := - turn b c p) (v := - turn c a p) (w := - turn a b p) (x := p.1) (a := a.1) (b := b.1) (c := c.1) (lo := min a.1 (min b.1 c.1)) (hi := max a.1 (max b.1 c.1)) (by omega) (by omega) (by omega) (by omega) (by omega) (by grind) (by omega) (by omega) (by omega)
        have m2 := mean_between (t := - turn a b c) (u := - turn b c p) (v := - turn c a p) (w := - turn a b p) (x := p.2) (a := a.2) (b := b.2) (c := c.2) (lo := min a.2 (min b.2 c.2)) (hi := max a.2 (max b.2 c.2)) (by omega) (by omega) (by omega) (by omega) (by omega) (by grind) (by omega) (by omega) (by omega)
        exact ⟨m1.1, m1.2, m2.1, m2.2⟩
    · rw [if_pos hm]
      symm
      rw [Bool.eq_false_iff]
      simp only [ne_eq, Bool.or_eq_true, Bool.and_eq_true, decide_eq_true_iff]
      exact hm
end Geo
namespace Geo
open Mm01
abbrev Seg := Place × Place
def pz : Place := (0, 0)
/-- stretches_of -/
def sidesOf (ring : Bool) (p : List Place) : List Seg :=
  p.zip (p.drop 1) ++ (if ring then [(p.getD (p.length - 1) pz, p.getD 0 pz)] else [])
def mkLine (ring : Bool) (p : List Place) : Line := ⟨ring, p.zipIdx.map fun q => (q.2, q.1)⟩
theorem mkLine_places (ring : Bool) (p : List Place) : (mkLine ring p).places = p := by
  unfold mkLine Line.places
  rw [List.map_map]
  show p.zipIdx.map (fun q => q.1) = p
  exact List.zipIdx_map_fst 0 p
theorem sides_eq (l : Line) (h : l.places ≠ []) : l.sides = sidesOf l.ring l.places := by
  unfold Line.sides sidesOf
  generalize l.places = p at *
  cases p with
  | nil => exact absurd rfl h
  | cons a r =>
    simp only
    congr 1
    cases l.ring with
    | false => rfl
    | true =>
      have e : (a :: r).getLast? = some ((a :: r).getD ((a :: r).length - 1) pz) := by
        rw [List.getLast?_eq_getElem?, List.getD_eq_getElem?_getD]
        rw [List.getElem?_eq_getElem (by simp)]
        rfl
      rw [e]
      rfl
theorem sidesOf_length (ring : Bool) (p : List Place) (h : p ≠ []) : (sidesOf ring p).length = p.length - 1 + (if ring then 1 else 0) := by
  have _ := h
  unfold sidesOf
  rw [List.length_append, List.length_zip, List.length_drop]
  cases ring <;> simp <;> omega
theorem sidesOf_at {ring : Bool} {p : List Place} {i : Nat} (h : i + 1 < p.length) : (sidesOf ring p)[i]? = some (p.getD i pz, p.getD (i + 1) pz) := by
  unfold sidesOf
  have hz : i < (p.zip (p.drop 1)).length := by
    rw [List.length_zip, List.length_drop]; omega
  rw [List.getElem?_append_left hz, List.getElem?_eq_getElem hz, List.getElem_zip]
  have h0 : i < p.length := by omega
  simp only [List.getElem_drop, List.getD_eq_getElem?_getD, List.getElem?_eq_getElem h0, List.getElem?_eq_getElem h, Option.getD_some, Nat.add_comm 1 i]
theorem sidesOf_last {p : List Place} (h : p ≠ []) : (sidesOf true p)[p.length - 1]? = some (p.getD (p.length - 1) pz, p.getD 0 pz) := by
  unfold sidesOf
  have hz : (p.zip (p.drop 1)).length = p.length - 1 := by
    rw [List.length_zip, List.length_drop]; omega
  rw [List.getElem?_append_right (by omega), hz, Nat.sub_self]
  rfl
/-- stretches_clash -/
def clash (ring : Bool) (s : List Seg) (i j : Nat) : Bool :=
  if j = i + 1 then runsBack (s.getD i (pz, pz)) (s.getD j (pz, pz))
  else if ring = true ∧ i = 0 ∧ j + 1 = s.length then runsBack (s.getD j (pz, pz)) (s.getD i (pz, pz))
  else stMeet (s.getD i (pz, pz)) (s.getD j (pz, pz))
/-- is_sound -/
def sound (ring : Bool) (p : List Place) : Bool :=
  decide p.Nodup && (List.range (sidesOf ring p).length).all fun j => (List.range j).all fun i => !(clash ring (sidesOf ring p) i j)
theorem eraseDups_le {α : Type} [BEq α] [LawfulBEq α] (n : Nat) : ∀ (l : List α), l.length ≤ n → l.eraseDups.length ≤ l.length := by
  induction n with
  | zero =>
    intro l h
    cases l with
    | nil => simp
    | cons a r => simp at h
  | succ n ih =>
    intro l h
    cases l with
    | nil => simp
    | cons a r =>
      rw [List.eraseDups_cons]
      have f := List.length_filter_le (fun b => !b == a) r
      have g := ih (r.filter fun b => !b == a) (by simp only [List.length_cons] at h; omega)
      simp only [List.length_cons]
      omega
theorem eraseDups_iff {α : Type} [BEq α] [LawfulBEq α] (n : Nat) : ∀ (l : List α), l.length ≤ n → (l.eraseDups.length = l.length ↔ l.Nodup) := by
  induction n with
  | zero =>
    intro l h
    cases l with
    | nil => simp
    | cons a r => simp at h
  | succ n ih =>
    intro l h
    cases l with
    | nil => simp
    | cons a r =>
      rw [List.eraseDups_cons, List.nodup_cons]
      simp only [List.length_cons] at h ⊢
      have f := List.length_filter_le (fun b => !b == a) r
      have g := eraseDups_le _ (r.filter fun b => !b == a) (Nat.le_refl _)
      have g' := ih (r.filter fun b => !b == a) (by omega)
      constructor
      · intro e
        have e1 : (r.filter fun b => !b == a).length = r.length := by omega
        have e2 : r.filter (fun b => !b == a) = r := by
          rw [List.filter_eq_self]
          intro x hx
          exact List.length_filter_eq_length_iff.mp e1 x hx
        rw [e2] at g' e
        refine ⟨fun hm => ?_, g'.mp (by omega)⟩
        have := List.filter_eq_self.mp e2 a hm
        simp at this
      · rintro ⟨h1, h2⟩
        have e2 : r.filter (fun b => !b == a) = r := by
          rw [List.filter_eq_self]
          intro x hx
          have : x ≠ a := fun e => h1 (e ▸ hx)
          simp [this]
        rw [e2]
        have := (ih r (by omega)).mpr h2
        omega
theorem getD_ne {p : List Place} (hn : p.Nodup) {i j : Nat} (hi : i < p.length) (hj : j < p.length) (hij : i ≠ j) : p.getD i pz ≠ p.getD j pz := by
  intro e
  simp only [List.getD_eq_getElem?_getD, List.getElem?_eq_getElem hi, List.getElem?_eq_getElem hj, Option.getD_some] at e
  rcases Nat.lt_or_gt_of_ne hij with q | q
  · exact (List.pairwise_iff_getElem.mp hn) i j hi hj q e
  · exact (List.pairwise_iff_getElem.mp hn) j i hj hi q e.symm
/-- one pair of stretches: the specification's word is the program's -/
theorem pair_eq {l : Line} (hn : l.places.Nodup) (h3 : l.ring = true → 3 ≤ l.places.length) (h0 : l.places ≠ []) {i j : Nat} {a b : Seg}
    (hij : i < j) (ha : (sidesOf l.ring l.places)[i]? = some a) (hb : (sidesOf l.ring l.places)[j]? = some b) :
    (if neighbours l (sidesOf l.ring l.places).length i j then
      (let c := if a.2 = b.1 then a.2 else a.1
       let x := if a.1 = c then a.2 else a.1
       let y := if b.1 = c then b.2 else b.1
       !(on c x y || on c y x)) else !(meet a.1 a.2 b.1 b.2)) = !(clash l.ring (sidesOf l.ring l.places) i j) := by
  have hlen := sidesOf_length l.ring l.places h0
  have jlt : j < (sidesOf l.ring l.places).length := by
    rcases List.getElem?_eq_some_iff.mp hb with ⟨h, _⟩
    exact h
  unfold clash
  rw [List.getD_eq_getElem?_getD, List.getD_eq_getElem?_getD, ha, hb]
  simp only [Option.getD_some]
  generalize hp : l.places = p at *
  have plen : 0 < p.length := by
    cases p with
    | nil => exact absurd rfl h0
    | cons => simp
  by_cases c1 : j = i + 1
  · have nb : neighbours l (sidesOf l.ring p).length i j = true := by
      unfold neighbours
      simp [c1]
    rw [if_pos nb, if_pos c1]
    have ilt : i + 1 < p.length := by
      cases hr : l.ring with
      | false => rw [hr] at hlen jlt; simp at hlen; omega
      | true => rw [hr] at hlen jlt; simp at hlen; omega
    have ea := sidesOf_at (ring := l.ring) ilt
    rw [ea] at ha
    have ea' := Option.some.inj ha
    have b1 : b.1 = p.getD (i + 1) pz := by
      by_cases q : j + 1 < p.length
      · have eb := sidesOf_at (ring := l.ring) q
        rw [eb] at hb
        rw [← Option.some.inj hb, c1]
      · cases hr : l.ring with
        | false => rw [hr] at hlen jlt; simp at hlen; omega
        | true =>
          have jl : j = p.length - 1 := by rw [hr] at hlen jlt; simp at hlen; omega
          have eb := sidesOf_last (p := p) h0
          rw [hr] at hb
          rw [jl] at hb
          rw [eb] at hb
          rw [← Option.some.inj hb]
          show p.getD (p.length - 1) pz = _
          rw [← jl, c1]
    subst ea'
    obtain ⟨b1', b2'⟩ := b
    simp only at b1
    subst b1
    simp only [if_true]
    have ne : p.getD i pz ≠ p.getD (i + 1) pz := getD_ne hn (by omega) ilt (by omega)
    simp only [if_neg ne]
    rw [runsBack_eq]
  · rw [if_neg c1]
    by_cases c2 : l.ring = true ∧ i = 0 ∧ j + 1 = (sidesOf l.ring p).length
    · have nb : neighbours l (sidesOf l.ring p).length i j = true := by
        unfold neighbours
        rw [c2.1, c2.2.1] at *
        have := c2.2.2
        simp [this]
      rw [if_pos nb, if_pos c2]
      obtain ⟨hr, rfl, hj⟩ := c2
      have p3 := h3 hr
      have ea := sidesOf_at (ring := l.ring) (p := p) (i := 0) (by omega)
      rw [ea] at ha
      have ea' := Option.some.inj ha
      have jl : j = p.length - 1 := by rw [hr] at hlen jlt hj; simp at hlen; omega
      have eb := sidesOf_last (p := p) h0
      rw [hr, jl, eb] at hb
      have eb' := Option.some.inj hb
      subst ea' eb'
      have n1 : p.getD (0 + 1) pz ≠ p.getD (p.length - 1) pz := getD_ne hn (by omega) (by omega) (by omega)
      have n2 : p.getD (p.length - 1) pz ≠ p.getD 0 pz := getD_ne hn (by omega) (by omega) (by omega)
      simp only [if_neg n1, if_true, if_neg n2]
      rw [runsBack_eq, Bool.or_comm]
    · rw [if_neg c2]
      have nb : neighbours l (sidesOf l.ring p).length i j = false := by
        rw [Bool.eq_false_iff]
        unfold neighbours
        simp only [ne_eq, Bool.or_eq_true, beq_iff_eq, Bool.and_eq_true]
        rintro (h | h | ⟨hr, h | h⟩)
        · exact c1 h.symm
        · omega
        · exact c2 ⟨hr, h.1, h.2⟩
        · omega
      rw [nb, stMeet_eq]
      simp
theorem simple_eq {l : Line} (h3 : l.ring = true → 3 ≤ l.places.length) (h0 : l.places ≠ []) : simple l = sound l.ring l.places := by
  rw [Bool.eq_iff_iff]
  unfold simple sound
  simp only [sides_eq l h0, Bool.and_eq_true, beq_iff_eq, decide_eq_true_iff, List.all_eq_true, Bool.or_eq_true]
  rw [eraseDups_iff _ l.places (Nat.le_refl _)]
  constructor
  · rintro ⟨hn, h⟩
    refine ⟨hn, fun j hj i hi => ?_⟩
    rw [List.mem_range] at hj hi
    have gi := List.getElem?_eq_getElem (show i < (sidesOf l.ring l.places).length by omega)
    have gj := List.getElem?_eq_getElem hj
    have := h ((sidesOf l.ring l.places)[i], i) (by
      rw [List.mem_zipIdx_iff_getElem?]; exact gi) ((sidesOf l.ring l.places)[j], j) (by
      rw [List.mem_zipIdx_iff_getElem?]; exact gj)
    rcases this with q | q
    · simp only at q; omega
    · rw [← pair_eq hn h3 h0 hi gi gj]
      exact q
  · rintro ⟨hn, h⟩
    refine ⟨hn, fun a ha b hb => ?_⟩
    rw [List.mem_zipIdx_iff_getElem?] at ha hb
    by_cases q : b.2 ≤ a.2
    · exact Or.inl q
    · right
      have jlt : b.2 < (sidesOf l.ring l.places).length := by
        rcases List.getElem?_eq_some_iff.mp hb with ⟨h, _⟩
        exact h
      have := h b.2 (List.mem_range.mpr jlt) a.2 (List.mem_range.mpr (by omega))
      rw [← pair_eq hn h3 h0 (by omega) ha hb] at this
      exact this
/-- lines_meet -/
def linesMeet (s o : List Seg) : Bool := s.any fun x => o.any fun y => stMeet x y
theorem clear_eq (x m : Line) (hx : x.places ≠ []) (hm : m.places ≠ []) : clear x m = !(linesMeet (sidesOf m.ring m.places) (sidesOf x.ring x.places)) := by
  rw [Bool.eq_iff_iff]
  unfold clear linesMeet
  simp only [sides_eq x hx, sides_eq m hm, List.all_eq_true, Bool.not_eq_true', List.any_eq_false, Bool.not_eq_true]
  constructor
  · intro h a ha b hb
    rw [stMeet_comm, stMeet_eq]
    exact h b hb a ha
  · intro h a ha b hb
    rw [← stMeet_eq, stMeet_comm]
    exact h b hb a ha
end Geo
namespace Geo
open Mm01
abbrev Off := Nat × Nat × Nat
/-- (line, place in its order) ahead of another -/
def lexLt (a b : Nat × Nat) : Prop := a.1 < b.1 ∨ (a.1 = b.1 ∧ a.2 < b.2)
def lexLe (a b : Nat × Nat) : Prop := a.1 < b.1 ∨ (a.1 = b.1 ∧ a.2 ≤ b.2)
def best : Option Off → Off → Option Off := fun m x => match m with
  | none => some x
  | some y => if x.1 < y.1 then some x else m
theorem next_def (ls : List Line) : next ls = (offers ls).foldl best none := by
  unfold next best
  congr 1
theorem best_keep {y : Off} : ∀ (l : List Off), (∀ x ∈ l, y.1 ≤ x.1) → l.foldl best (some y) = some y
  | [], _ => rfl
  | x :: r, h => by
    rw [List.foldl_cons]
    have : best (some y) x = some y := by
      unfold best
      simp only
      rw [if_neg (by have := h x (by simp); omega)]
    rw [this]
    exact best_keep r fun z hz => h z (List.mem_cons_of_mem _ hz)
theorem best_above {y : Off} : ∀ (l : List Off) (m : Option Off), (∀ x ∈ l, y.1 < x.1) → (∀ z, m = some z → y.1 < z.1) → best (l.foldl best m) y = some y
  | [], m, _, hm => by
    show best m y = some y
    unfold best
    cases m with
    | none => rfl
    | some z =>
      simp only
      rw [if_pos (hm z rfl)]
  | x :: r, m, h, hm => by
    rw [List.foldl_cons]
    refine best_above r _ (fun z hz => h z (List.mem_cons_of_mem _ hz)) fun z hz => ?_
    have hx := h x (by simp)
    unfold best at hz
    cases m with
    | none =>
      simp only at hz
      rw [← Option.some.inj hz]; exact hx
    | some w =>
      simp only at hz
      split at hz
      · rw [← Option.some.inj hz]; exact hx
      · exact hm z hz
theorem best_some {l : List Off} {y : Off} (hy : y ∈ l) (hp : l.Pairwise fun a b => lexLt a.2 b.2) (hm : ∀ x ∈ l, y.1 < x.1 ∨ (y.1 = x.1 ∧ lexLe y.2 x.2)) : l.foldl best none = some y := by
  obtain ⟨l1, l2, rfl⟩ := List.append_of_mem hy
  rw [List.foldl_append, List.foldl_cons]
  rw [List.pairwise_append] at hp
  rw [best_above l1 none _ (fun z hz => by cases hz)]
  · refine best_keep l2 fun x hx => ?_
    rcases hm x (by simp [hx]) with q | q
    · omega
    · omega
  · intro x hx
    have o := hp.2.2 x hx y (by simp)
    rcases hm x (by simp [hx]) with q | q
    · exact q
    · exfalso
      unfold lexLt at o
      have := q.2
      unfold lexLe at this
      omega
theorem pairwise_range (n : Nat) : (List.range n).Pairwise (· < ·) := List.pairwise_lt_range
theorem offers_sorted (ls : List Line) : (offers ls).Pairwise fun a b => lexLt a.2 b.2 := by
  unfold offers
  rw [List.pairwise_flatMap]
  constructor
  · intro k _
    rw [List.pairwise_filterMap]
    refine (pairwise_range _).imp ?_
    intro i j hij x hx y hy
    cases e1 : price ls k i with
    | none => rw [e1] at hx; cases hx
    | some c =>
      cases e2 : price ls k j with
      | none => rw [e2] at hy; cases hy
      | some d =>
        rw [e1] at hx; rw [e2] at hy
        have hx' := Option.some.inj hx
        have hy' := Option.some.inj hy
        rw [← hx', ← hy']
        exact Or.inr ⟨rfl, hij⟩
  · refine (pairwise_range _).imp ?_
    intro k k' hk x hx y hy
    rw [List.mem_filterMap] at hx hy
    obtain ⟨i, _, hx⟩ := hx
    obtain ⟨j, _, hy⟩ := hy
    cases e1 : price ls k i with
    | none => rw [e1] at hx; cases hx
    | some c =>
      cases e2 : price ls k' j with
      | none => rw [e2] at hy; cases hy
      | some d =>
        rw [e1] at hx; rw [e2] at hy
        have hx' := Option.some.inj hx
        have hy' := Option.some.inj hy
        rw [← hx', ← hy']
        exact Or.inl hk
def lz : Line := ⟨false, []⟩
theorem mem_offers {ls : List Line} {c k i : Nat} : (c, k, i) ∈ offers ls ↔ k < ls.length ∧ i < (ls.getD k lz).points.length ∧ price ls k i = some c := by
  unfold offers
  rw [List.mem_flatMap]
  constructor
  · rintro ⟨k', hk, h⟩
    rw [List.mem_filterMap] at h
    obtain ⟨i', hi, h⟩ := h
    cases e : price ls k' i' with
    | none => rw [e] at h; cases h
    | some d =>
      rw [e] at h
      have h := Option.some.inj h
      have h1 : d = c := congrArg (·.1) h
      have h2 : k' = k := congrArg (·.2.1) h
      have h3 : i' = i := congrArg (·.2.2) h
      subst h1 h2 h3
      exact ⟨List.mem_range.mp hk, List.mem_range.mp hi, e⟩
  · rintro ⟨hk, hi, e⟩
    refine ⟨k, List.mem_range.mpr hk, ?_⟩
    rw [List.mem_filterMap]
    exact ⟨i, List.mem_range.mpr hi, by rw [e]; rfl⟩
theorem next_some_of {ls : List Line} {c k i : Nat} (hk : k < ls.length) (hi : i < (ls.getD k lz).points.length) (e : price ls k i = some c)
    (hm : ∀ c' k' i', k' < ls.length → i' < (ls.getD k' lz).points.length → price ls k' i' = some c' → c < c' ∨ (c = c' ∧ lexLe (k, i) (k', i'))) : next ls = some (c, k, i) := by
  rw [next_def]
  refine best_some (mem_offers.mpr ⟨hk, hi, e⟩) (offers_sorted ls) ?_
  rintro ⟨c', k', i'⟩ hx
  obtain ⟨h1, h2, h3⟩ := mem_offers.mp hx
  exact hm c' k' i' h1 h2 h3
theorem next_none_of {ls : List Line} (h : ∀ k i, k < ls.length → i < (ls.getD k lz).points.length → price ls k i = none) : next ls = none := by
  have e : offers ls = [] := by
    rw [List.eq_nil_iff_forall_not_mem]
    rintro ⟨c, k, i⟩ hx
    obtain ⟨h1, h2, h3⟩ := mem_offers.mp hx
    rw [h k i h1 h2] at h3
    cases h3
  rw [next_def, e]
  rfl
theorem best_mem {l : List Off} : ∀ {m : Option Off} {y : Off}, l.foldl best m = some y → y ∈ l ∨ m = some y := by
  induction l with
  | nil => intro m y h; exact Or.inr h
  | cons x r ih =>
    intro m y h
    rw [List.foldl_cons] at h
    rcases ih h with q | q
    · exact Or.inl (List.mem_cons_of_mem _ q)
    · unfold best at q
      cases m with
      | none => exact Or.inl (by rw [← Option.some.inj q]; simp)
      | some w =>
        simp only at q
        split at q
        · exact Or.inl (by rw [← Option.some.inj q]; simp)
        · exact Or.inr q
theorem next_some_inv {ls : List Line} {c k i : Nat} (h : next ls = some (c, k, i)) : k < ls.length ∧ i < (ls.getD k lz).points.length ∧ price ls k i = some c := by
  rw [next_def] at h
  rcases best_mem h with q | q
  · exact mem_offers.mp q
  · cases q
theorem foldl_add (l : List Nat) : ∀ a : Nat, l.foldl (fun a b => a + b) a = a + l.sum := by
  induction l with
  | nil => intro a; simp
  | cons x r ih => intro a; rw [List.foldl_cons, ih, List.sum_cons]; omega
theorem count_eq (ls : List Line) : count ls = (ls.map fun l => l.points.length).sum := by
  unfold count
  rw [foldl_add]; omega
theorem takeOut_eq (ls : List Line) (k i : Nat) (hk : k < ls.length) : takeOut ls k i = ls.set k { ls.getD k lz with points := (ls.getD k lz).points.eraseIdx i } := by
  unfold takeOut
  apply List.ext_getElem?
  intro n
  rw [List.getElem?_map, List.getElem?_zipIdx, List.getElem?_set]
  by_cases h : k = n
  · subst h
    rw [List.getElem?_eq_getElem hk, List.getD_eq_getElem?_getD, List.getElem?_eq_getElem hk]
    simp [hk]
  · rw [if_neg h]
    cases e : ls[n]? with
    | none => rfl
    | some l =>
      simp only [Option.map_some, Nat.zero_add]
      rw [if_neg (Ne.symm h)]
theorem sum_set (l : List Nat) : ∀ (k x : Nat), k < l.length → (l.set k x).sum + l.getD k 0 = l.sum + x := by
  induction l with
  | nil => intro k x h; simp at h
  | cons a r ih =>
    intro k x h
    cases k with
    | zero => simp; omega
    | succ k =>
      have := ih k x (by simpa using h)
      simp only [List.set_cons_succ, List.sum_cons, List.getD_cons_succ]
      omega
theorem count_takeOut {ls : List Line} {k i : Nat} (hk : k < ls.length) (hi : i < (ls.getD k lz).points.length) : count (takeOut ls k i) + 1 = count ls := by
  rw [count_eq, count_eq, takeOut_eq ls k i hk, List.map_set]
  have s := sum_set (ls.map fun l => l.points.length) k ((ls.getD k lz).points.eraseIdx i).length (by rw [List.length_map]; exact hk)
  have e : (ls.map fun l => l.points.length).getD k 0 = (ls.getD k lz).points.length := by
    rw [List.getD_eq_getElem?_getD, List.getD_eq_getElem?_getD, List.getElem?_map, List.getElem?_eq_getElem hk]
    rfl
  have e2 : ((ls.getD k lz).points.eraseIdx i).length = (ls.getD k lz).points.length - 1 := List.length_eraseIdx_of_lt hi
  simp only at s ⊢
  rw [e, e2] at s
  rw [e2]
  omega
/-- what one turn of the going hands on -/
theorem goes_some {f w : Nat} {ls : List Line} {c k i : Nat} (h : next ls = some (c, k, i)) (hf : count ls < f) :
    ∃ f', count (takeOut ls k i) < f' ∧ goes f w ls = (k, (((ls.getD k lz).points.getD i (0, (0, 0))).1), max w c) :: goes f' (max w c) (takeOut ls k i) := by
  cases f with
  | zero => omega
  | succ f =>
    have inv := next_some_inv h
    refine ⟨f, ?_, ?_⟩
    · have := count_takeOut (i := i) inv.1 inv.2.1
      omega
    · show (match next ls with
        | none => []
        | some x =>
          let v := max w x.1
          (x.2.1, (((ls.getD x.2.1 ⟨false, []⟩).points.getD x.2.2 (0, (0, 0))).1), v) :: goes f v (takeOut ls x.2.1 x.2.2)) = _
      rw [h]
      rfl
theorem goes_none {f w : Nat} {ls : List Line} (h : next ls = none) : goes f w ls = [] := by
  cases f with
  | zero => rfl
  | succ f =>
    show (match next ls with
        | none => []
        | some x =>
          let v := max w x.1
          (x.2.1, (((ls.getD x.2.1 ⟨false, []⟩).points.getD x.2.2 (0, (0, 0))).1), v) :: goes f v (takeOut ls x.2.1 x.2.2)) = _
    rw [h]
end Geo
namespace Geo
open Mm01
abbrev PLine := Bool × List Place
abbrev Tri := Place × Place × Place
def lineAt (q : PLine) (lf : List Nat) : Line := ⟨q.1, lf.map fun i => (i, q.2.getD i pz)⟩
def lsOf (L : List PLine) (F : List (List Nat)) : List Line := List.zipWith lineAt L F
/-- free_positions -/
def free (ring : Bool) (n : Nat) : List Nat := if ring then (if 3 < n then List.range n else []) else List.range' 1 (n - 2)
/-- corners_at -/
def cornersAt (p : List Place) (lf : List Nat) (pos : Nat) : Tri :=
  (p.getD (lf.getD ((pos + lf.length - 1) % lf.length) 0) pz, p.getD (lf.getD pos 0) pz, p.getD (lf.getD ((pos + 1) % lf.length) 0) pz)
structure Cand where
  price : Nat
  k : Nat
  num : Nat
  tri : Tri
def triPrice (t : Tri) : Nat := (turn t.1 t.2.1 t.2.2).natAbs
def candAt (k : Nat) (q : PLine) (lf : List Nat) (pos : Nat) : Cand := ⟨triPrice (cornersAt q.2 lf pos), k, lf.getD pos 0, cornersAt q.2 lf pos⟩
def candsLine (k : Nat) (q : PLine) (lf : List Nat) : List Cand := (free q.1 lf.length).map (candAt k q lf)
def cands (L : List PLine) (F : List (List Nat)) : List Cand := (L.zip F).zipIdx.flatMap fun z => candsLine z.2 z.1.1 z.1.2
/-- places_left -/
def placesLeft (L : List PLine) (F : List (List Nat)) : List Place := (L.zip F).flatMap fun z => z.2.map fun i => z.1.2.getD i pz
/-- is_clear -/
def isClear (t : Tri) (ps : List Place) : Bool := ps.all fun p => !(!(p == t.1 || (p == t.2.1 || p == t.2.2)) && inTri p t.1 t.2.1 t.2.2)
structure WfL (q : PLine) (lf : List Nat) : Prop where
  up : lf.Pairwise (· < ·)
  lt : ∀ i ∈ lf, i < q.2.length
  nd : q.2.Nodup
structure Wf (L : List PLine) (F : List (List Nat)) : Prop where
  len : L.length = F.length
  each : ∀ (k : Nat) (q : PLine) (lf : List Nat), L[k]? = some q → F[k]? = some lf → WfL q lf
theorem lsOf_at {L : List PLine} {F : List (List Nat)} {k : Nat} {q : PLine} {lf : List Nat} (h1 : L[k]? = some q) (h2 : F[k]? = some lf) : (lsOf L F)[k]? = some (lineAt q lf) := by
  unfold lsOf
  rw [List.getElem?_zipWith, h1, h2]
theorem lsOf_length {L : List PLine} {F : List (List Nat)} (h : L.length = F.length) : (lsOf L F).length = L.length := by
  unfold lsOf
  rw [List.length_zipWith]; omega
theorem at_of_lt {L : List PLine} {F : List (List Nat)} (W : Wf L F) {k : Nat} (h : k < L.length) : ∃ q lf, L[k]? = some q ∧ F[k]? = some lf :=
  ⟨L[k], F[k]'(by have := W.len; omega), List.getElem?_eq_getElem h, List.getElem?_eq_getElem _⟩
theorem lineAt_places (q : PLine) (lf : List Nat) : (lineAt q lf).places = lf.map fun i => q.2.getD i pz := by
  unfold lineAt Line.places
  rw [List.map_map]
  rfl
theorem places_getD (q : PLine) (lf : List Nat) {i : Nat} (h : i < lf.length) : (lineAt q lf).places.getD i (0, 0) = q.2.getD (lf.getD i 0) pz := by
  rw [lineAt_places]
  simp only [List.getD_eq_getElem?_getD, List.getElem?_map, List.getElem?_eq_getElem h, Option.map_some, Option.getD_some]
theorem mem_free {ring : Bool} {n i : Nat} : i ∈ free ring n ↔ (if ring then 3 < n ∧ i < n else 0 < i ∧ i + 1 < n) := by
  unfold free
  cases ring with
  | true =>
    simp only [if_true]
    split
    · rename_i h; simp [List.mem_range, h]
    · rename_i h; simp [h]
  | false =>
    simp only [Bool.false_eq_true, if_false]
    rw [List.mem_range'_1]
    omega
theorem triple_eq (q : PLine) (lf : List Nat) {i : Nat} (hi : i < lf.length) : triple (lineAt q lf) i = if i ∈ free q.1 lf.length then some (cornersAt q.2 lf i) else none := by
  have hlen : (lineAt q lf).places.length = lf.length := by rw [lineAt_places, List.length_map]
  have hr : (lineAt q lf).ring = q.1 := rfl
  unfold triple
  simp only [hlen, hr]
  cases hq : q.1 with
  | true =>
    simp only [if_true]
    by_cases h : lf.length ≤ 3
    · rw [if_pos h, if_neg]
      rw [mem_free]; simp; omega
    · rw [if_neg h, if_pos (by rw [mem_free]; simp; omega)]
      unfold cornersAt
      rw [places_getD q lf (Nat.mod_lt _ (by omega)), places_getD q lf hi, places_getD q lf (Nat.mod_lt _ (by omega))]
  | false =>
    simp only [Bool.false_eq_true, if_false]
    by_cases h : i = 0 ∨ lf.length ≤ i + 1
    · rw [if_pos h, if_neg]
      rw [mem_free]; simp; omega
    · rw [if_neg h, if_pos (by rw [mem_free]; simp; omega)]
      unfold cornersAt
      have e1 : (i + lf.length - 1) % lf.length = i - 1 := by
        have : i + lf.length - 1 = (i - 1) + lf.length := by omega
        rw [this, Nat.add_mod_right, Nat.mod_eq_of_lt (by omega)]
      have e2 : (i + 1) % lf.length = i + 1 := Nat.mod_eq_of_lt (by omega)
      rw [e1, e2, places_getD q lf (by omega), places_getD q lf hi, places_getD q lf (by omega)]
theorem up_ne {lf : List Nat} (h : lf.Pairwise (· < ·)) {i j : Nat} (hi : i < lf.length) (hj : j < lf.length) (hij : i ≠ j) : lf.getD i 0 ≠ lf.getD j 0 := by
  simp only [List.getD_eq_getElem?_getD, List.getElem?_eq_getElem hi, List.getElem?_eq_getElem hj, Option.getD_some]
  have := List.pairwise_iff_getElem.mp h
  rcases Nat.lt_or_gt_of_ne hij with q | q
  · have := this i j hi hj q; omega
  · have := this j i hj hi q; omega
theorem getD_mem {lf : List Nat} {i : Nat} (hi : i < lf.length) : lf.getD i 0 ∈ lf := by
  simp only [List.getD_eq_getElem?_getD, List.getElem?_eq_getElem hi, Option.getD_some]
  exact List.getElem_mem hi
theorem corners_ne {q : PLine} {lf : List Nat} (W : WfL q lf) {i : Nat} (h : i ∈ free q.1 lf.length) : (cornersAt q.2 lf i).1 ≠ (cornersAt q.2 lf i).2.1 ∧ (cornersAt q.2 lf i).2.1 ≠ (cornersAt q.2 lf i).2.2 ∧ (cornersAt q.2 lf i).1 ≠ (cornersAt q.2 lf i).2.2 := by
  have key : 3 ≤ lf.length ∧ i < lf.length := by
    rw [mem_free] at h
    cases hq : q.1 <;> rw [hq] at h <;> simp at h <;> omega
  obtain ⟨n3, hi⟩ := key
  have m1 : (i + lf.length - 1) % lf.length < lf.length := Nat.mod_lt _ (by omega)
  have m2 : (i + 1) % lf.length < lf.length := Nat.mod_lt _ (by omega)
  have a1 : (i + lf.length - 1) % lf.length = if i = 0 then lf.length - 1 else i - 1 := by
    split
    · rename_i z; subst z; rw [Nat.zero_add, Nat.mod_eq_of_lt (by omega)]
    · have : i + lf.length - 1 = (i - 1) + lf.length := by omega
      rw [this, Nat.add_mod_right, Nat.mod_eq_of_lt (by omega)]
  have a2 : (i + 1) % lf.length = if i + 1 = lf.length then 0 else i + 1 := by
    split
    · rename_i z; rw [z, Nat.mod_self]
    · rw [Nat.mod_eq_of_lt (by omega)]
  have go : ∀ {x y : Nat}, x < lf.length → y < lf.length → x ≠ y → q.2.getD (lf.getD x 0) pz ≠ q.2.getD (lf.getD y 0) pz := fun hx hy hxy =>
    getD_ne W.nd (W.lt _ (getD_mem hx)) (W.lt _ (getD_mem hy)) (up_ne W.up hx hy hxy)
  unfold cornersAt
  refine ⟨go m1 hi ?_, go hi m2 ?_, go m1 m2 ?_⟩
  · rw [a1]; split <;> omega
  · rw [a2]; split <;> omega
  · rw [a1, a2]; split <;> split <;> omega
theorem price_eq {L : List PLine} {F : List (List Nat)} {k : Nat} {q : PLine} {lf : List Nat} (h1 : L[k]? = some q) (h2 : F[k]? = some lf) (W : WfL q lf) {i : Nat} (hi : i < lf.length) :
    price (lsOf L F) k i = if i ∈ free q.1 lf.length ∧ isClear (cornersAt q.2 lf i) (placesLeft L F) = true then some (triPrice (cornersAt q.2 lf i)) else none := by
  unfold price
  rw [lsOf_at h1 h2, Option.bind_some, triple_eq q lf hi]
  by_cases hf : i ∈ free q.1 lf.length
  · rw [if_pos hf, Option.bind_some]
    obtain ⟨n1, n2, n3⟩ := corners_ne W hf
    have e : ((lsOf L F).any fun m => m.places.any fun p => p != (cornersAt q.2 lf i).1 && (p != (cornersAt q.2 lf i).2.1 && (p != (cornersAt q.2 lf i).2.2 && inTriangle (cornersAt q.2 lf i).1 (cornersAt q.2 lf i).2.1 (cornersAt q.2 lf i).2.2 p)))
        = !(isClear (cornersAt q.2 lf i) (placesLeft L F)) := by
      rw [Bool.eq_iff_iff]
      unfold isClear
      rw [Bool.not_eq_true', List.all_eq_false, List.any_eq_true]
      constructor
      · rintro ⟨m, hm, h⟩
        rw [List.any_eq_true] at h
        obtain ⟨p, hp, h⟩ := h
        refine ⟨p, ?_, ?_⟩
        · unfold lsOf at hm
          rw [← List.map_uncurry_zip_eq_zipWith, List.mem_map] at hm
          obtain ⟨z, hz, rfl⟩ := hm
          unfold placesLeft
          rw [List.mem_flatMap]
          refine ⟨z, hz, ?_⟩
          have : (Function.uncurry lineAt z) = lineAt z.1 z.2 := rfl
          rw [this, lineAt_places] at hp
          exact hp
        · rw [inTri_eq n1 n2 n3]
          simp only [Bool.and_eq_true, bne_iff_ne] at h
          simp [h.1, h.2.1, h.2.2.1, h.2.2.2]
      · rintro ⟨p, hp, h⟩
        unfold placesLeft at hp
        rw [List.mem_flatMap] at hp
        obtain ⟨z, hz, hp⟩ := hp
        refine ⟨lineAt z.1 z.2, ?_, ?_⟩
        · unfold lsOf
          rw [← List.map_uncurry_zip_eq_zipWith, List.mem_map]
          exact ⟨z, hz, rfl⟩
        · rw [List.any_eq_true]
          refine ⟨p, by rw [lineAt_places]; exact hp, ?_⟩
          rw [inTri_eq n1 n2 n3] at h
          simp only [Bool.not_eq_true', Bool.and_eq_true, Bool.or_eq_false_iff, beq_eq_false_iff_ne, Bool.not_eq_false] at h
          simp only [Bool.and_eq_true, bne_iff_ne]
          exact ⟨h.1.1, h.1.2.1, h.1.2.2, h.2⟩
    rw [e]
    by_cases hc : isClear (cornersAt q.2 lf i) (placesLeft L F) = true
    · simp [hf, hc, triPrice]
    · rw [Bool.not_eq_true] at hc
      simp [hc]
  · rw [if_neg hf, if_neg (fun h => hf h.1)]
    rfl
theorem mem_cands {L : List PLine} {F : List (List Nat)} {y : Cand} : y ∈ cands L F ↔ ∃ k q lf pos, L[k]? = some q ∧ F[k]? = some lf ∧ pos ∈ free q.1 lf.length ∧ y = candAt k q lf pos := by
  unfold cands
  rw [List.mem_flatMap]
  constructor
  · rintro ⟨⟨⟨q, lf⟩, k⟩, hz, h⟩
    rw [List.mem_zipIdx_iff_getElem?] at hz
    simp only at hz
    rw [List.getElem?_zip_eq_some] at hz
    unfold candsLine at h
    rw [List.mem_map] at h
    obtain ⟨pos, hp, e⟩ := h
    exact ⟨k, q, lf, pos, hz.1, hz.2, hp, e.symm⟩
  · rintro ⟨k, q, lf, pos, h1, h2, hp, e⟩
    refine ⟨((q, lf), k), ?_, ?_⟩
    · rw [List.mem_zipIdx_iff_getElem?]
      simp only
      rw [List.getElem?_zip_eq_some]
      exact ⟨h1, h2⟩
    · unfold candsLine
      rw [List.mem_map]
      exact ⟨pos, hp, e.symm⟩
/-- by price, then the line, then the point -/
def keyLe (x y : Cand) : Prop := x.price < y.price ∨ (x.price = y.price ∧ (x.k < y.k ∨ (x.k = y.k ∧ x.num ≤ y.num)))
theorem keyLe_refl (x : Cand) : keyLe x x := Or.inr ⟨rfl, Or.inr ⟨rfl, Nat.le_refl _⟩⟩
theorem find_least {ys : List Cand} {P : Cand → Bool} (h : ys.Pairwise keyLe) {y : Cand} (hf : ys.find? P = some y) : ∀ x ∈ ys, P x = true → keyLe y x := by
  induction ys with
  | nil => cases hf
  | cons z r ih =>
    rw [List.pairwise_cons] at h
    intro x hx hp
    rw [List.find?_cons] at hf
    cases hz : P z with
    | true =>
      rw [hz] at hf
      have e := Option.some.inj hf
      subst e
      cases hx with
      | head => exact keyLe_refl _
      | tail _ hx => exact h.1 x hx
    | false =>
      rw [hz] at hf
      cases hx with
      | head => rw [hz] at hp; cases hp
      | tail _ hx => exact ih h.2 hf x hx hp
theorem free_lt {ring : Bool} {n i : Nat} (h : i ∈ free ring n) : i < n := by
  rw [mem_free] at h
  cases ring <;> simp at h <;> omega
theorem up_le {lf : List Nat} (h : lf.Pairwise (· < ·)) {i j : Nat} (hi : i < lf.length) (hj : j < lf.length) (hle : lf.getD i 0 ≤ lf.getD j 0) : i ≤ j := by
  by_cases q : i ≤ j
  · exact q
  · exfalso
    simp only [List.getD_eq_getElem?_getD, List.getElem?_eq_getElem hi, List.getElem?_eq_getElem hj, Option.getD_some] at hle
    have := List.pairwise_iff_getElem.mp h j i hj hi (by omega)
    omega
theorem lsOf_points {L : List PLine} {F : List (List Nat)} {k : Nat} {q : PLine} {lf : List Nat} (h1 : L[k]? = some q) (h2 : F[k]? = some lf) : ((lsOf L F).getD k lz).points = lf.map fun i => (i, q.2.getD i pz) := by
  rw [List.getD_eq_getElem?_getD, lsOf_at h1 h2]
  rfl
/-- next_to_go: the first clear one of the sorted candidates is the next that goes -/
theorem next_sorted_some {L : List PLine} {F : List (List Nat)} (W : Wf L F) {ys : List Cand} (hp : ys.Perm (cands L F)) (hs : ys.Pairwise keyLe) {y : Cand}
    (hf : ys.find? (fun c => isClear c.tri (placesLeft L F)) = some y) :
    ∃ q lf i, L[y.k]? = some q ∧ F[y.k]? = some lf ∧ i < lf.length ∧ lf.getD i 0 = y.num ∧ next (lsOf L F) = some (y.price, y.k, i) := by
  have ym : y ∈ cands L F := hp.mem_iff.mp (List.mem_of_find?_eq_some hf)
  have yc : isClear y.tri (placesLeft L F) = true := by
    have := List.find?_some hf
    exact this
  obtain ⟨k, q, lf, pos, h1, h2, hfr, rfl⟩ := mem_cands.mp ym
  have hlt := free_lt hfr
  have Wl := W.each k q lf h1 h2
  refine ⟨q, lf, pos, h1, h2, hlt, rfl, ?_⟩
  have klt : k < L.length := (List.getElem?_eq_some_iff.mp h1).1
  show next (lsOf L F) = some (triPrice (cornersAt q.2 lf pos), k, pos)
  refine next_some_of (by rw [lsOf_length W.len]; exact klt) (by rw [lsOf_points h1 h2, List.length_map]; exact hlt) ?_ ?_
  · rw [price_eq h1 h2 Wl hlt, if_pos ⟨hfr, yc⟩]
  · intro c' k' i' hk' hi' hpr
    rw [lsOf_length W.len] at hk'
    obtain ⟨q', lf', h1', h2'⟩ := at_of_lt W hk'
    rw [lsOf_points h1' h2', List.length_map] at hi'
    rw [price_eq h1' h2' (W.each k' q' lf' h1' h2') hi'] at hpr
    split at hpr
    · rename_i hc
      have e := Option.some.inj hpr
      have xm : candAt k' q' lf' i' ∈ ys := hp.mem_iff.mpr (mem_cands.mpr ⟨k', q', lf', i', h1', h2', hc.1, rfl⟩)
      have le := find_least hs hf _ xm hc.2
      unfold keyLe at le
      rcases le with le | ⟨e1, le⟩
      · left; rw [← e]; exact le
      · right
        refine ⟨by rw [← e]; exact e1, ?_⟩
        rcases le with le | ⟨e2, le⟩
        · exact Or.inl le
        · have e2' : k = k' := e2
          subst e2'
          rw [h1] at h1'; rw [h2] at h2'
          have a := Option.some.inj h1'
          have b := Option.some.inj h2'
          subst a b
          exact Or.inr ⟨rfl, up_le Wl.up hlt hi' le⟩
    · cases hpr
theorem next_sorted_none {L : List PLine} {F : List (List Nat)} (W : Wf L F) {ys : List Cand} (hp : ys.Perm (cands L F))
    (hf : ys.find? (fun c => isClear c.tri (placesLeft L F)) = none) : next (lsOf L F) = none := by
  refine next_none_of fun k i hk hi => ?_
  rw [lsOf_length W.len] at hk
  obtain ⟨q, lf, h1, h2⟩ := at_of_lt W hk
  rw [lsOf_points h1 h2, List.length_map] at hi
  rw [price_eq h1 h2 (W.each k q lf h1 h2) hi]
  split
  · rename_i hc
    have xm : candAt k q lf i ∈ ys := hp.mem_iff.mpr (mem_cands.mpr ⟨k, q, lf, i, h1, h2, hc.1, rfl⟩)
    have := List.find?_eq_none.mp hf _ xm
    exact absurd hc.2 this
  · rfl
end Geo
namespace Geo
open Mm01
theorem eraseIdx_map {α β : Type} (f : α → β) (l : List α) (i : Nat) : (l.map f).eraseIdx i = (l.eraseIdx i).map f := by
  induction l generalizing i with
  | nil => rfl
  | cons a r ih =>
    cases i with
    | zero => rfl
    | succ i => simp [ih]
theorem zipWith_set_right {α β γ : Type} (f : α → β → γ) (l : List α) (m : List β) (k : Nat) (x : β) (a : α) (h : l[k]? = some a) (hm : k < m.length) : List.zipWith f l (m.set k x) = (List.zipWith f l m).set k (f a x) := by
  apply List.ext_getElem?
  intro n
  rw [List.getElem?_zipWith, List.getElem?_set, List.getElem?_set, List.getElem?_zipWith, List.length_zipWith]
  by_cases e : k = n
  · subst e
    have kl := (List.getElem?_eq_some_iff.mp h).1
    rw [if_pos rfl, if_pos rfl, if_pos hm, if_pos (by omega), h]
  · rw [if_neg e, if_neg e]
/-- left[k].remove(..) -/
theorem takeOut_lsOf {L : List PLine} {F : List (List Nat)} (W : Wf L F) {k i : Nat} {q : PLine} {lf : List Nat} (h1 : L[k]? = some q) (h2 : F[k]? = some lf) : takeOut (lsOf L F) k i = lsOf L (F.set k (lf.eraseIdx i)) := by
  have kl := (List.getElem?_eq_some_iff.mp h1).1
  have fl := (List.getElem?_eq_some_iff.mp h2).1
  rw [takeOut_eq _ _ _ (by rw [lsOf_length W.len]; exact kl)]
  unfold lsOf
  rw [zipWith_set_right lineAt L F k _ q h1 fl]
  congr 1
  have e : (List.zipWith lineAt L F).getD k lz = lineAt q lf := by
    rw [List.getD_eq_getElem?_getD]
    have := lsOf_at h1 h2
    unfold lsOf at this
    rw [this]
    rfl
  rw [e]
  unfold lineAt
  simp only
  rw [eraseIdx_map]
theorem Wf_set {L : List PLine} {F : List (List Nat)} (W : Wf L F) {k i : Nat} {q : PLine} {lf : List Nat} (h1 : L[k]? = some q) (h2 : F[k]? = some lf) : Wf L (F.set k (lf.eraseIdx i)) := by
  have fl := (List.getElem?_eq_some_iff.mp h2).1
  refine ⟨by rw [List.length_set]; exact W.len, fun k' q' lf' g1 g2 => ?_⟩
  rw [List.getElem?_set] at g2
  by_cases e : k = k'
  · subst e
    rw [if_pos rfl, if_pos fl] at g2
    have g2 := Option.some.inj g2
    rw [h1] at g1
    have g1 := Option.some.inj g1
    subst g1 g2
    have Wl := W.each k q lf h1 h2
    exact ⟨Wl.up.sublist (List.eraseIdx_sublist _ _), fun j hj => Wl.lt j ((List.eraseIdx_sublist _ _).mem hj), Wl.nd⟩
  · rw [if_neg e] at g2
    exact W.each k' q' lf' g1 g2
/-- the one number taken out of a rising row, by its value or by its place -/
theorem erase_eq {lf : List Nat} (h : lf.Pairwise (· < ·)) {i : Nat} (hi : i < lf.length) : lf.erase (lf.getD i 0) = lf.eraseIdx i := by
  induction lf generalizing i with
  | nil => simp at hi
  | cons a r ih =>
    rw [List.pairwise_cons] at h
    cases i with
    | zero => simp
    | succ i =>
      have hi' : i < r.length := by simpa using hi
      have m := h.1 _ (getD_mem hi')
      rw [List.getD_cons_succ, List.eraseIdx_cons_succ, List.erase_cons_tail (by rw [Bool.not_eq_true, beq_eq_false_iff_ne]; omega), ih h.2 hi']
/-! every point goes once -/
def nums (l : Line) : List Nat := l.points.map (·.1)
def NumsOk (ls : List Line) : Prop := ∀ l ∈ ls, (nums l).Nodup
theorem mem_set_sub {α : Type} {l : List α} {k : Nat} {x y : α} (h : y ∈ l.set k x) : y ∈ l ∨ y = x := List.mem_or_eq_of_mem_set h
theorem NumsOk_takeOut {ls : List Line} (h : NumsOk ls) {k i : Nat} (hk : k < ls.length) : NumsOk (takeOut ls k i) := by
  rw [takeOut_eq _ _ _ hk]
  intro l hl
  rcases mem_set_sub hl with q | q
  · exact h l q
  · rw [q]
    unfold nums
    simp only
    rw [← eraseIdx_map]
    have : ls.getD k lz ∈ ls := by
      rw [List.getD_eq_getElem?_getD, List.getElem?_eq_getElem hk]
      exact List.getElem_mem hk
    exact (h _ this).sublist (List.eraseIdx_sublist _ _)
theorem goes_mem : ∀ {f w : Nat} {ls : List Line} {x : Off}, x ∈ goes f w ls → x.1 < ls.length ∧ x.2.1 ∈ nums (ls.getD x.1 lz)
  | 0, w, ls, x, h => by cases h
  | f + 1, w, ls, x, h => by
    cases e : next ls with
    | none => rw [goes_none e] at h; cases h
    | some y =>
      obtain ⟨c, k, i⟩ := y
      obtain ⟨hk, hi, _⟩ := next_some_inv e
      have h' : x ∈ (k, (((ls.getD k lz).points.getD i (0, (0, 0))).1), max w c) :: goes f (max w c) (takeOut ls k i) := by
        have : goes (f + 1) w ls = (k, (((ls.getD k lz).points.getD i (0, (0, 0))).1), max w c) :: goes f (max w c) (takeOut ls k i) := by
          show (match next ls with
            | none => []
            | some x =>
              let v := max w x.1
              (x.2.1, (((ls.getD x.2.1 ⟨false, []⟩).points.getD x.2.2 (0, (0, 0))).1), v) :: goes f v (takeOut ls x.2.1 x.2.2)) = _
          rw [e]
          rfl
        rw [← this]; exact h
      cases h' with
      | head =>
        refine ⟨hk, ?_⟩
        unfold nums
        rw [List.mem_map]
        refine ⟨(ls.getD k lz).points.getD i (0, (0, 0)), ?_, rfl⟩
        show (ls.getD k lz).points.getD i (0, (0, 0)) ∈ (ls.getD k lz).points
        rw [List.getD_eq_getElem?_getD (l := (ls.getD k lz).points), List.getElem?_eq_getElem hi]
        exact List.getElem_mem hi
      | tail _ h' =>
        have ih := goes_mem h'
        rw [takeOut_eq _ _ _ hk, List.length_set] at ih
        refine ⟨ih.1, ?_⟩
        have m := ih.2
        rw [List.getD_eq_getElem?_getD, List.getElem?_set] at m
        by_cases q : k = x.1
        · rw [if_pos q, if_pos hk] at m
          unfold nums at m ⊢
          simp only [Option.getD_some] at m
          rw [q] at m
          rw [← eraseIdx_map] at m
          exact (List.eraseIdx_sublist _ _).mem m
        · rw [if_neg q] at m
          rw [List.getD_eq_getElem?_getD]
          exact m
theorem not_mem_eraseIdx {l : List Nat} (h : l.Nodup) {i : Nat} (hi : i < l.length) : l[i] ∉ l.eraseIdx i := by
  intro m
  rw [List.mem_eraseIdx_iff_getElem] at m
  obtain ⟨j, hj, hne, e⟩ := m
  rcases Nat.lt_or_gt_of_ne hne with q | q
  · exact (List.pairwise_iff_getElem.mp h) j i hj hi q e
  · exact (List.pairwise_iff_getElem.mp h) i j hi hj q e.symm
theorem goes_nodup : ∀ {f w : Nat} {ls : List Line}, NumsOk ls → ((goes f w ls).map fun x => (x.1, x.2.1)).Nodup
  | 0, w, ls, h => List.Pairwise.nil
  | f + 1, w, ls, h => by
    cases e : next ls with
    | none => rw [goes_none e]; exact List.Pairwise.nil
    | some y =>
      obtain ⟨c, k, i⟩ := y
      obtain ⟨hk, hi, _⟩ := next_some_inv e
      have this : goes (f + 1) w ls = (k, (((ls.getD k lz).points.getD i (0, (0, 0))).1), max w c) :: goes f (max w c) (takeOut ls k i) := by
        show (match next ls with
          | none => []
          | some x =>
            let v := max w x.1
            (x.2.1, (((ls.getD x.2.1 ⟨false, []⟩).points.getD x.2.2 (0, (0, 0))).1), v) :: goes f v (takeOut ls x.2.1 x.2.2)) = _
        rw [e]
        rfl
      rw [this, List.map_cons, List.nodup_cons]
      refine ⟨fun m => ?_, goes_nodup (NumsOk_takeOut h hk)⟩
      rw [List.mem_map] at m
      obtain ⟨x, hx, ex⟩ := m
      have ih := goes_mem hx
      have e1 : x.1 = k := congrArg (·.1) ex
      have e2 : x.2.1 = ((ls.getD k lz).points.getD i (0, (0, 0))).1 := congrArg (·.2) ex
      have m := ih.2
      rw [e1, takeOut_eq _ _ _ hk, List.getD_eq_getElem?_getD, List.getElem?_set, if_pos rfl, if_pos hk, e2] at m
      unfold nums at m
      simp only [Option.getD_some] at m
      rw [← eraseIdx_map] at m
      have hl : ls.getD k lz ∈ ls := by
        rw [List.getD_eq_getElem?_getD, List.getElem?_eq_getElem hk]
        exact List.getElem_mem hk
      have nd := h _ hl
      unfold nums at nd
      have hi' : i < ((ls.getD k lz).points.map (·.1)).length := by rw [List.length_map]; exact hi
      refine not_mem_eraseIdx nd hi' ?_
      have eq : ((ls.getD k lz).points.map (·.1))[i] = ((ls.getD k lz).points.getD i (0, (0, 0))).1 := by
        rw [List.getElem_map]
        rw [List.getD_eq_getElem?_getD (l := (ls.getD k lz).points), List.getElem?_eq_getElem hi]
        rfl
      rw [eq]
      exact m
theorem order_nodup {ls : List Line} (h : NumsOk ls) : ((order ls).map fun x => (x.1, x.2.1)).Nodup := goes_nodup h
/-- the worth of a point in an order -/
def worthOf (o : List Off) (k i : Nat) : Option Nat := (o.find? fun x => x.1 == k && x.2.1 == i).map (·.2.2)
theorem worthOf_mem {o : List Off} (h : (o.map fun x => (x.1, x.2.1)).Nodup) {x : Off} (hx : x ∈ o) : worthOf o x.1 x.2.1 = some x.2.2 := by
  induction o with
  | nil => cases hx
  | cons y r ih =>
    rw [List.map_cons, List.nodup_cons] at h
    unfold worthOf
    rw [List.find?_cons]
    cases hx with
    | head => simp
    | tail _ hx =>
      have ne : (y.1 == x.1 && y.2.1 == x.2.1) = false := by
        rw [Bool.eq_false_iff]
        intro e
        simp only [Bool.and_eq_true, beq_iff_eq] at e
        apply h.1
        rw [List.mem_map]
        exact ⟨x, hx, by rw [e.1, e.2]⟩
      rw [ne]
      exact ih h.2 hx
theorem worthOf_some {o : List Off} {k i w : Nat} (h : worthOf o k i = some w) : (k, i, w) ∈ o := by
  unfold worthOf at h
  cases e : o.find? fun x => x.1 == k && x.2.1 == i with
  | none => rw [e] at h; cases h
  | some x =>
    rw [e] at h
    have m := List.mem_of_find?_eq_some e
    have p := List.find?_some e
    simp only [Bool.and_eq_true, beq_iff_eq] at p
    have w' := Option.some.inj h
    have : x = (k, i, w) := by
      obtain ⟨a, b, c⟩ := x
      simp only at p w'
      rw [p.1, p.2, w']
    rw [← this]; exact m
/-- gone at t -/
theorem gone_iff {o : List Off} (h : (o.map fun x => (x.1, x.2.1)).Nodup) (t k i : Nat) :
    ((o.filter fun x => decide (x.2.2 < t)).any fun x => x.1 == k && x.2.1 == i) = (match worthOf o k i with | none => false | some w => decide (w < t)) := by
  rw [Bool.eq_iff_iff, List.any_eq_true]
  constructor
  · rintro ⟨x, hx, e⟩
    rw [List.mem_filter] at hx
    simp only [Bool.and_eq_true, beq_iff_eq] at e
    have w := worthOf_mem h hx.1
    rw [e.1, e.2] at w
    rw [w]
    exact hx.2
  · intro e
    cases w : worthOf o k i with
    | none => rw [w] at e; cases e
    | some v =>
      rw [w] at e
      refine ⟨(k, i, v), List.mem_filter.mpr ⟨worthOf_some w, e⟩, ?_⟩
      simp
theorem nums_mkLine (ring : Bool) (p : List Place) : nums (mkLine ring p) = List.range p.length := by
  unfold nums mkLine
  rw [List.map_map]
  show p.zipIdx.map (fun q => q.2) = _
  rw [List.zipIdx_map_snd, List.range_eq_range']
theorem NumsOk_mk (L : List PLine) : NumsOk (L.map fun q => mkLine q.1 q.2) := by
  intro l hl
  rw [List.mem_map] at hl
  obtain ⟨q, _, rfl⟩ := hl
  rw [nums_mkLine]
  exact List.nodup_range
/-- all points there -/
def fullF (L : List PLine) : List (List Nat) := L.map fun q => List.range q.2.length
theorem mkLine_eq (q : PLine) : lineAt q (List.range q.2.length) = mkLine q.1 q.2 := by
  unfold lineAt mkLine
  congr 1
  apply List.ext_getElem?
  intro n
  rw [List.getElem?_map, List.getElem?_map, List.getElem?_zipIdx]
  by_cases h : n < q.2.length
  · rw [List.getElem?_eq_getElem (by simpa using h), List.getElem?_eq_getElem h]
    simp [h]
  · rw [List.getElem?_eq_none (by simpa using Nat.le_of_not_lt h), List.getElem?_eq_none (Nat.le_of_not_lt h)]
    rfl
theorem lsOf_full (L : List PLine) : lsOf L (fullF L) = L.map fun q => mkLine q.1 q.2 := by
  unfold lsOf fullF
  apply List.ext_getElem?
  intro n
  rw [List.getElem?_zipWith, List.getElem?_map, List.getElem?_map]
  cases L[n]? with
  | none => rfl
  | some q =>
    simp only [Option.map_some]
    rw [mkLine_eq]
theorem Wf_full {L : List PLine} (h : ∀ q ∈ L, q.2.Nodup) : Wf L (fullF L) := by
  refine ⟨by unfold fullF; rw [List.length_map], fun k q lf h1 h2 => ?_⟩
  unfold fullF at h2
  rw [List.getElem?_map, h1] at h2
  have e := Option.some.inj h2
  subst e
  exact ⟨List.pairwise_lt_range, fun i hi => List.mem_range.mp hi, h q (List.mem_of_getElem? h1)⟩
end Geo
namespace Geo
open Mm01
/-! what is shown -/
/-- shown at t, by the order o -/
def isShown (o : List Off) (t k i : Nat) : Bool := match worthOf o k i with
  | none => true
  | some w => decide (t ≤ w)
def shownPts (o : List Off) (t k n : Nat) : List Nat := (List.range n).filter (isShown o t k)
theorem not_gone {o : List Off} (h : (o.map fun x => (x.1, x.2.1)).Nodup) (t k i : Nat) : (!((o.filter fun x => decide (x.2.2 < t)).any fun x => x.1 == k && x.2.1 == i)) = isShown o t k i := by
  rw [gone_iff h]
  unfold isShown
  cases worthOf o k i with
  | none => rfl
  | some w =>
    simp only
    rw [Bool.eq_iff_iff, Bool.not_eq_true', decide_eq_false_iff_not, decide_eq_true_iff]
    omega
theorem specL_get (L : List PLine) (k : Nat) : (L.map fun q => mkLine q.1 q.2)[k]? = (L[k]?).map fun q => mkLine q.1 q.2 := List.getElem?_map
theorem filter_map_fst (p : List Place) (f : Nat → Bool) : ((p.zipIdx.map fun q => (q.2, q.1)).filter fun x => f x.1) = (((List.range p.length).filter f).map fun i => (i, p.getD i pz)) := by
  have e : (p.zipIdx.map fun q => (q.2, q.1)) = (List.range p.length).map fun i => (i, p.getD i pz) := by
    apply List.ext_getElem?
    intro n
    rw [List.getElem?_map, List.getElem?_map, List.getElem?_zipIdx]
    by_cases h : n < p.length
    · rw [List.getElem?_eq_getElem h, List.getElem?_range h]
      simp [List.getD_eq_getElem?_getD, List.getElem?_eq_getElem h]
    · rw [List.getElem?_eq_none (Nat.le_of_not_lt h), List.getElem?_eq_none (l := List.range p.length) (by simpa using Nat.le_of_not_lt h)]
      rfl
  rw [e, List.filter_map]
  rfl
theorem shown_get (L : List PLine) (t k : Nat) : (Mm01.shown (L.map fun q => mkLine q.1 q.2) t)[k]? = (L[k]?).map fun q => (⟨q.1, (shownPts (order (L.map fun q => mkLine q.1 q.2)) t k q.2.length).map fun i => (i, q.2.getD i pz)⟩ : Line) := by
  unfold Mm01.shown
  simp only
  rw [List.getElem?_map, List.getElem?_zipIdx, specL_get]
  cases L[k]? with
  | none => rfl
  | some q =>
    simp only [Option.map_some, Nat.zero_add]
    congr 1
    unfold shownPts
    have := filter_map_fst q.2 (isShown (order (L.map fun q => mkLine q.1 q.2)) t k)
    rw [← this]
    show Line.mk q.1 _ = _
    congr 1
    refine List.filter_congr fun x _ => ?_
    exact not_gone (order_nodup (NumsOk_mk L)) t k x.1
theorem shown_length (L : List PLine) (t : Nat) : (Mm01.shown (L.map fun q => mkLine q.1 q.2) t).length = L.length := by
  unfold Mm01.shown
  simp
/-! the line that is handed in -/
/-- is_granted -/
def granted (ring : Nat) (l : List Nat) : Bool :=
  if 1 < ring ∨ l.length % 2 = 1 then false
  else if l.length < 2 * (if ring = 1 then 3 else 2) ∨ 2 * 12 < l.length then false
  else l.all fun n => decide (n ≤ 1000)
/-- places_from -/
def placesOf : List Nat → List Place
  | x :: y :: l => ((x : Int), (y : Int)) :: placesOf l
  | _ => []
theorem pairs_eq : ∀ (l : List Nat), pairs l = if l.length % 2 = 1 then none else some (placesOf l)
  | [] => rfl
  | [_] => rfl
  | x :: y :: l => by
    unfold pairs
    rw [pairs_eq l]
    have : (x :: y :: l).length % 2 = l.length % 2 := by simp only [List.length_cons]; omega
    rw [this]
    split
    · rfl
    · rfl
theorem placesOf_length : ∀ (l : List Nat), l.length % 2 = 0 → 2 * (placesOf l).length = l.length
  | [], _ => rfl
  | [_], h => by simp at h
  | x :: y :: l, h => by
    have := placesOf_length l (by simp only [List.length_cons] at h; omega)
    simp only [placesOf, List.length_cons]
    omega
theorem all_any (l : List Nat) : (l.all fun n => decide (n ≤ 1000)) = !(l.any fun n => decide (1000 < n)) := by
  rw [List.not_any_eq_all_not]
  congr 1
  funext n
  rw [Bool.eq_iff_iff, Bool.not_eq_true', decide_eq_true_iff, decide_eq_false_iff_not]
  omega
theorem lineOf_eq (ring : Nat) (l : List Nat) : lineOf ring l = if granted ring l then some (mkLine (ring == 1) (placesOf l)) else none := by
  unfold lineOf granted
  rw [pairs_eq, all_any]
  generalize hm : (if ring = 1 then 3 else 2) = m
  by_cases h1 : 1 < ring
  · rw [if_pos (Or.inl h1), if_pos (Or.inl h1)]
    rfl
  · by_cases h2 : l.length % 2 = 1
    · rw [if_pos h2, if_pos (Or.inr h2)]
      simp
    · have hl := placesOf_length l (by omega)
      rw [if_neg h2, if_neg (show ¬ (1 < ring ∨ l.length % 2 = 1) by omega), Option.bind_some]
      by_cases h4 : (placesOf l).length < m ∨ 12 < (placesOf l).length
      · rw [if_pos h4, if_pos (show l.length < 2 * m ∨ 2 * 12 < l.length by omega)]
        simp
      · rw [if_neg h4, if_neg (show ¬ (l.length < 2 * m ∨ 2 * 12 < l.length) by omega)]
        cases h3 : (l.any fun n => decide (1000 < n)) with
        | true => rw [if_pos (Or.inr rfl)]; rfl
        | false => rw [if_neg (by simp [h1])]; rfl
/-! the calls, one behind another -/
theorem calls_nil {shape : Int → Option (Nat × Nat)} {f : Nat} : PyFlat.calls shape f [] = some [] := by cases f <;> rfl
theorem calls_cons {shape : Int → Option (Nat × Nat)} {f : Nat} {p : Int} {r : List Int} {cs : List (List (List Int))} (h : PyFlat.calls shape f (p :: r) = some cs) :
    ∃ f' c t cs', f = f' + 1 ∧ PyFlat.call shape (p :: r) = some (c, t) ∧ PyFlat.calls shape f' t = some cs' ∧ cs = c :: cs' := by
  cases f with
  | zero => cases h
  | succ f =>
    unfold PyFlat.calls at h
    cases e : PyFlat.call shape (p :: r) with
    | none => rw [e] at h; cases h
    | some ct =>
      obtain ⟨c, t⟩ := ct
      rw [e] at h
      simp only at h
      cases e2 : PyFlat.calls shape f t with
      | none => rw [e2] at h; cases h
      | some cs' =>
        rw [e2] at h
        exact ⟨f, c, t, cs', rfl, rfl, e2, (Option.some.inj h).symm⟩
/-- one call, by its place -/
inductive CallIs : List Int → List (List Int) → List Int → Prop
  | line (x : Int) (row t : List Int) : CallIs (0 :: x :: (row.length : Int) :: (row ++ t)) [[0, x], row] t
  | drop (k : Int) (t : List Int) : CallIs (1 :: k :: t) [[1, k]] t
  | order (t : List Int) : CallIs (2 :: t) [[2]] t
  | worth (k i : Int) (t : List Int) : CallIs (3 :: k :: i :: t) [[3, k, i]] t
  | shown (s k : Int) (t : List Int) : CallIs (4 :: s :: k :: t) [[4, s, k]] t
  | counts (s : Int) (t : List Int) : CallIs (5 :: s :: t) [[5, s]] t
  | few (n : Int) (t : List Int) : CallIs (6 :: n :: t) [[6, n]] t
  | area (s k : Int) (t : List Int) : CallIs (7 :: s :: k :: t) [[7, s, k]] t
  | round (s k x y : Int) (t : List Int) : CallIs (8 :: s :: k :: x :: y :: t) [[8, s, k, x, y]] t
theorem rows_zero (r : List Int) : PyFlat.rows 0 r = some ([], r) := rfl
theorem call_is {p : Int} {r : List Int} {c : List (List Int)} {t : List Int} (h : PyFlat.call PyMm01.shape (p :: r) = some (c, t)) : CallIs (p :: r) c t := by
  unfold PyFlat.call PyMm01.shape at h
  by_cases h0 : p = 0
  · subst h0
    simp only [if_true] at h
    match r, h with
    | [], h => simp at h
    | [x], h => simp [PyFlat.rows, PyFlat.row] at h
    | x :: n :: r, h =>
      rw [if_neg (by simp)] at h
      simp only [List.drop_succ_cons, List.drop_zero, List.take_succ_cons, List.take_zero] at h
      unfold PyFlat.rows PyFlat.row at h
      dsimp only at h
      by_cases hn : 0 ≤ n ∧ n.toNat ≤ r.length
      · rw [if_pos hn] at h
        simp only [rows_zero] at h
        have h := Option.some.inj h
        have h1 : c = [[0, x], r.take n.toNat] := (congrArg (·.1) h).symm
        have h2 : t = r.drop n.toNat := (congrArg (·.2) h).symm
        have e : n = ((r.take n.toNat).length : Int) := by
          rw [List.length_take]
          omega
        have key := CallIs.line x (r.take n.toNat) (r.drop n.toNat)
        rw [List.take_append_drop, ← e] at key
        rw [h1, h2]
        exact key
      · rw [if_neg hn] at h
        cases h
  · simp only [h0, if_false] at h
    by_cases h1 : p = 1
    · subst h1
      simp only [if_true] at h
      match r, h with
      | [], h => simp at h
      | k :: r, h =>
        simp [rows_zero] at h
        rw [← h.1, ← h.2]
        exact .drop k r
    · simp only [h1, if_false] at h
      by_cases h2 : p = 2
      · subst h2
        simp [rows_zero] at h
        rw [← h.1, ← h.2]
        exact .order r
      · simp only [h2, if_false] at h
        by_cases h3 : p = 3
        · subst h3
          simp only [if_true] at h
          match r, h with
          | [], h => simp at h
          | [_], h => simp at h
          | k :: i :: r, h =>
            simp [rows_zero] at h
            rw [← h.1, ← h.2]
            exact .worth k i r
        · simp only [h3, if_false] at h
          by_cases h4 : p = 4
          · subst h4
            simp only [if_true] at h
            match r, h with
            | [], h => simp at h
            | [_], h => simp at h
            | k :: i :: r, h =>
              simp [rows_zero] at h
              rw [← h.1, ← h.2]
              exact .shown k i r
          · simp only [h4, if_false] at h
            by_cases h5 : p = 5
            · subst h5
              simp only [if_true] at h
              match r, h with
              | [], h => simp at h
              | k :: r, h =>
                simp [rows_zero] at h
                rw [← h.1, ← h.2]
                exact .counts k r
            · simp only [h5, if_false] at h
              by_cases h6 : p = 6
              · subst h6
                simp only [if_true] at h
                match r, h with
                | [], h => simp at h
                | k :: r, h =>
                  simp [rows_zero] at h
                  rw [← h.1, ← h.2]
                  exact .few k r
              · simp only [h6, if_false] at h
                by_cases h7 : p = 7
                · subst h7
                  simp only [if_true] at h
                  match r, h with
                  | [], h => simp at h
                  | [_], h => simp at h
                  | k :: i :: r, h =>
                    simp [rows_zero] at h
                    rw [← h.1, ← h.2]
                    exact .area k i r
                · simp only [h7, if_false] at h
                  by_cases h8 : p = 8
                  · subst h8
                    simp only [if_true] at h
                    match r, h with
                    | [], h => simp at h
                    | [_], h => simp at h
                    | [_, _], h => simp at h
                    | [_, _, _], h => simp at h
                    | a :: b :: x :: y :: r, h =>
                      simp [rows_zero] at h
                      rw [← h.1, ← h.2]
                      exact .round a b x y r
                  · simp only [h8, if_false] at h
                    cases h
end Geo
namespace Geo
open Mm01
def In32 (z : Int) : Prop := 0 ≤ z ∧ z ≤ 4294967295
theorem nat_ok {z : Int} (h : In32 z) : Mm01Neutral.nat z = true := by
  unfold Mm01Neutral.nat
  unfold In32 at h
  rw [Bool.and_eq_true, decide_eq_true_iff, decide_eq_true_iff]
  omega
theorem in32_lit {n : Nat} (h : n < 100) : In32 (n : Int) := by unfold In32; omega
theorem callOf_eq {l : List Int} (h : ∀ z ∈ l, In32 z) : Mm01Neutral.callOf l = Mm01Neutral.callIn (l.map Int.toNat) := by
  unfold Mm01Neutral.callOf
  have : l.all Mm01Neutral.nat = true := by
    rw [List.all_eq_true]
    intro z hz
    exact nat_ok (h z hz)
  rw [this]
  rfl
/-- one call as the program's list has it, played -/
abbrev play (s : St) (c : List (List Int)) : St × List Int := Mm01Neutral.step s ((PyMm01.whole c).headD [])
theorem play_of {s : St} {c : List (List Int)} {w : List Int} {x : Call} (h1 : (PyMm01.whole c).headD [] = w) (h2 : ∀ z ∈ w, In32 z) (h3 : Mm01Neutral.callIn (w.map Int.toNat) = some x) : play s c = Mm01.step s x := by
  unfold play Mm01Neutral.step
  rw [h1, callOf_eq h2, h3]
theorem in32_cons {n : Nat} (hn : n < 100) {l : List Int} (h : ∀ z ∈ l, In32 z) : ∀ z ∈ (n : Int) :: l, In32 z := by
  intro z hz
  cases hz with
  | head => exact in32_lit hn
  | tail _ hz => exact h z hz
theorem play_line {s : St} {x : Int} {row : List Int} (h : ∀ z ∈ x :: row, In32 z) : play s [[0, x], row] = Mm01.step s (.line x.toNat (row.map Int.toNat)) :=
  play_of (w := 0 :: x :: row) rfl (in32_cons (n := 0) (by decide) h) rfl
theorem play_drop {s : St} {k : Int} (h : ∀ z ∈ [k], In32 z) : play s [[1, k]] = Mm01.step s (.drop k.toNat) :=
  play_of (w := [1, k]) rfl (in32_cons (n := 1) (by decide) h) rfl
theorem play_order {s : St} : play s [[2]] = Mm01.step s .order :=
  play_of (w := [2]) rfl (in32_cons (n := 2) (by decide) (by simp)) rfl
theorem play_worth {s : St} {k i : Int} (h : ∀ z ∈ [k, i], In32 z) : play s [[3, k, i]] = Mm01.step s (.worth k.toNat i.toNat) :=
  play_of (w := [3, k, i]) rfl (in32_cons (n := 3) (by decide) h) rfl
theorem play_shown {s : St} {t k : Int} (h : ∀ z ∈ [t, k], In32 z) : play s [[4, t, k]] = Mm01.step s (.shown t.toNat k.toNat) :=
  play_of (w := [4, t, k]) rfl (in32_cons (n := 4) (by decide) h) rfl
theorem play_counts {s : St} {t : Int} (h : ∀ z ∈ [t], In32 z) : play s [[5, t]] = Mm01.step s (.counts t.toNat) :=
  play_of (w := [5, t]) rfl (in32_cons (n := 5) (by decide) h) rfl
theorem play_few {s : St} {n : Int} (h : ∀ z ∈ [n], In32 z) : play s [[6, n]] = Mm01.step s (.few n.toNat) :=
  play_of (w := [6, n]) rfl (in32_cons (n := 6) (by decide) h) rfl
theorem play_area {s : St} {t k : Int} (h : ∀ z ∈ [t, k], In32 z) : play s [[7, t, k]] = Mm01.step s (.area t.toNat k.toNat) :=
  play_of (w := [7, t, k]) rfl (in32_cons (n := 7) (by decide) h) rfl
theorem play_round {s : St} {t k x y : Int} (h : ∀ z ∈ [t, k, x, y], In32 z) : play s [[8, t, k, x, y]] = Mm01.step s (.round t.toNat k.toNat x.toNat y.toNat) :=
  play_of (w := [8, t, k, x, y]) rfl (in32_cons (n := 8) (by decide) h) rfl
/-- what is answered by the calls from a state on -/
def rest (s : St) (cs : List (List (List Int))) : List Int := PyFlat.told (PyFlat.played (fun s c => Mm01Neutral.step s (c.headD [])) s (cs.map PyMm01.whole))
theorem rest_nil (s : St) : rest s [] = [] := rfl
theorem rest_cons (s : St) (c : List (List Int)) (cs : List (List (List Int))) : rest s (c :: cs) = (((play s c).2.length : Int) :: (play s c).2) ++ rest (play s c).1 cs := by
  unfold rest play PyFlat.told
  rw [List.map_cons]
  show (List.flatMap _ (_ :: _)) = _
  rw [List.flatMap_cons]
theorem answers_eq {ns : List Int} {cs : List (List (List Int))} (h : PyFlat.calls PyMm01.shape ns.length ns = some cs) : PyMm01.answers ns = rest [] cs := by
  unfold PyMm01.answers PyMm01.calls rest
  rw [h]
  rfl
theorem asked_calls {ns : List Int} (h : PyMm01.answers_asked ns = true) : ∃ cs, PyFlat.calls PyMm01.shape ns.length ns = some cs ∧ cs ≠ [] ∧ cs.length ≤ 30 ∧ PyInside.calls PyMm01.bound cs = true := by
  unfold PyMm01.answers_asked at h
  cases e : PyFlat.calls PyMm01.shape ns.length ns with
  | none => rw [e] at h; cases h
  | some cs =>
    rw [e] at h
    simp only [Bool.and_eq_true] at h
    refine ⟨cs, rfl, ?_, ?_, h.1.1.2⟩
    · rintro rfl
      simp at h
    · exact of_decide_eq_true h.1.1.1.2
/-- the row of a line that is handed in is short -/
theorem bound_line {x : Int} {row : List Int} {cs : List (List (List Int))} (h : PyInside.calls PyMm01.bound ([[0, x], row] :: cs) = true) : row.length ≤ 40 := by
  unfold PyInside.calls at h
  rw [List.all_cons, Bool.and_eq_true] at h
  have h1 := h.1
  unfold PyInside.call at h1
  simp [PyMm01.bound, PyInside.each, PyInside.lists] at h1
  exact h1.2.1
theorem bound_tail {c : List (List Int)} {cs : List (List (List Int))} (h : PyInside.calls PyMm01.bound (c :: cs) = true) : PyInside.calls PyMm01.bound cs = true := by
  unfold PyInside.calls at h ⊢
  rw [List.all_cons, Bool.and_eq_true] at h
  exact h.2
end Geo
namespace Geo
open Mm01
abbrev specOf (L : List PLine) : List Line := L.map fun q => mkLine q.1 q.2
abbrev newLine (r : Nat) (l : List Nat) : PLine := (r == 1, placesOf l)
theorem granted_len {r : Nat} {l : List Nat} (h : granted r l = true) : 2 ≤ (placesOf l).length ∧ (placesOf l).length ≤ 12 ∧ (r = 1 → 3 ≤ (placesOf l).length) ∧ r ≤ 1 ∧ l.length % 2 = 0 ∧ l.all (fun n => decide (n ≤ 1000)) = true := by
  unfold granted at h
  by_cases h1 : 1 < r ∨ l.length % 2 = 1
  · rw [if_pos h1] at h; cases h
  · rw [if_neg h1] at h
    have hl := placesOf_length l (by omega)
    by_cases hr : r = 1
    · rw [if_pos hr] at h
      by_cases h2 : l.length < 2 * 3 ∨ 2 * 12 < l.length
      · rw [if_pos h2] at h; cases h
      · rw [if_neg h2] at h
        exact ⟨by omega, by omega, fun _ => by omega, by omega, by omega, h⟩
    · rw [if_neg hr] at h
      by_cases h2 : l.length < 2 * 2 ∨ 2 * 12 < l.length
      · rw [if_pos h2] at h; cases h
      · rw [if_neg h2] at h
        exact ⟨by omega, by omega, fun z => absurd z hr, by omega, by omega, h⟩
theorem placesOf_mem : ∀ (l : List Nat), (∀ n ∈ l, n ≤ 1000) → ∀ p ∈ placesOf l, (0 ≤ p.1 ∧ p.1 ≤ 1000) ∧ 0 ≤ p.2 ∧ p.2 ≤ 1000
  | [], _, p, h => by cases h
  | [_], _, p, h => by cases h
  | x :: y :: l, hl, p, h => by
    unfold placesOf at h
    cases h with
    | head =>
      have h1 := hl x (by simp)
      have h2 := hl y (by simp)
      simp only
      omega
    | tail _ h => exact placesOf_mem l (fun n hn => hl n (by simp [hn])) p h
theorem ne_nil_of_len {α : Type} {l : List α} (h : 2 ≤ l.length) : l ≠ [] := by
  rintro rfl
  simp at h
/-- line -/
theorem step_line_eq (L : List PLine) (hL : ∀ q ∈ L, 2 ≤ q.2.length) (r : Nat) (l : List Nat) : Mm01.step (specOf L) (.line r l) =
    if granted r l = false then (specOf L, [-1]) else if sound (newLine r l).1 (newLine r l).2 = false then (specOf L, [-2])
    else if (L.any fun o => linesMeet (sidesOf (newLine r l).1 (newLine r l).2) (sidesOf o.1 o.2)) = true then (specOf L, [-6])
    else if 4 ≤ L.length then (specOf L, [-5]) else (specOf (L ++ [newLine r l]), [(L.length : Int)]) := by
  unfold Mm01.step
  simp only
  rw [lineOf_eq]
  cases hg : granted r l with
  | false => rfl
  | true =>
    obtain ⟨g1, g2, g3, g4, g5, g6⟩ := granted_len hg
    have hp : (mkLine (r == 1) (placesOf l)).places = placesOf l := mkLine_places _ _
    have hs : simple (mkLine (r == 1) (placesOf l)) = sound (r == 1) (placesOf l) := by
      rw [simple_eq (l := mkLine (r == 1) (placesOf l)) (by
        rw [hp]
        intro h
        exact g3 (by simpa [mkLine] using h)) (by rw [hp]; exact ne_nil_of_len g1), hp]
      rfl
    have hc : ((specOf L).all fun x => clear x (mkLine (r == 1) (placesOf l))) = !(L.any fun o => linesMeet (sidesOf (r == 1) (placesOf l)) (sidesOf o.1 o.2)) := by
      rw [List.not_any_eq_all_not, List.all_map, Bool.eq_iff_iff, List.all_eq_true, List.all_eq_true]
      have key : ∀ q ∈ L, clear (mkLine q.1 q.2) (mkLine (r == 1) (placesOf l)) = !(linesMeet (sidesOf (r == 1) (placesOf l)) (sidesOf q.1 q.2)) := fun q hq => by
        rw [clear_eq _ _ (by rw [mkLine_places]; exact ne_nil_of_len (hL q hq)) (by rw [hp]; exact ne_nil_of_len g1), mkLine_places, mkLine_places]
        rfl
      constructor
      · intro h q hq
        rw [← key q hq]
        exact h q hq
      · intro h q hq
        show clear (mkLine q.1 q.2) _ = true
        rw [key q hq]
        exact h q hq
    simp only [if_true]
    rw [hs, hc]
    simp only [Bool.true_eq_false, if_false, List.length_map, Bool.not_eq_false']
    split
    · rfl
    · split
      · rfl
      · split
        · rfl
        · show _ = ((L ++ [newLine r l]).map fun q => mkLine q.1 q.2, _)
          rw [List.map_append]
          rfl
/-- drop -/
theorem step_drop_eq (L : List PLine) (k : Nat) : Mm01.step (specOf L) (.drop k) = if L.length ≤ k then (specOf L, [-3]) else (specOf (L.eraseIdx k), [((L.length - 1 : Nat) : Int)]) := by
  unfold Mm01.step
  simp only [List.length_map]
  split
  · rfl
  · rw [eraseIdx_map]
    rfl
/-- order -/
def ordInts (o : List Off) : List Int := (o.length : Int) :: o.flatMap fun x => [(x.1 : Int), (x.2.1 : Int), (x.2.2 : Int)]
theorem step_order_eq (L : List PLine) : Mm01.step (specOf L) .order = (specOf L, ordInts (order (specOf L))) := by
  unfold Mm01.step ordInts Mm01.ints
  simp only [List.map_cons, List.map_flatMap]
  rfl
/-- worth -/
theorem step_worth_eq (L : List PLine) (k i : Nat) : Mm01.step (specOf L) (.worth k i) = (specOf L, match L[k]? with
    | none => [-3]
    | some q => if q.2.length ≤ i then [-4] else match worthOf (order (specOf L)) k i with
      | none => [0]
      | some w => [1, (w : Int)]) := by
  unfold Mm01.step
  simp only
  rw [specL_get]
  cases L[k]? with
  | none => rfl
  | some q =>
    simp only [Option.map_some]
    have : (mkLine q.1 q.2).points.length = q.2.length := by
      unfold mkLine
      rw [List.length_map, List.length_zipIdx]
    rw [this]
    congr 1
    split
    · rfl
    · unfold worthOf
      cases (order (specOf L)).find? fun x => x.1 == k && x.2.1 == i with
      | none => rfl
      | some x => rfl
/-- shown -/
theorem step_shown_eq (L : List PLine) (t k : Nat) : Mm01.step (specOf L) (.shown t k) = (specOf L, match L[k]? with
    | none => [-3]
    | some q => (((shownPts (order (specOf L)) t k q.2.length).length : Int) :: (shownPts (order (specOf L)) t k q.2.length).map fun (i : Nat) => (i : Int))) := by
  unfold Mm01.step
  simp only
  rw [shown_get]
  cases L[k]? with
  | none => rfl
  | some q =>
    simp only [Option.map_some]
    congr 1
    unfold Mm01.ints
    rw [List.length_map, List.map_map, List.map_cons, List.map_map]
    rfl
/-- counts -/
theorem step_counts_eq (L : List PLine) (t : Nat) : Mm01.step (specOf L) (.counts t) = (specOf L, L.zipIdx.map fun z => (((shownPts (order (specOf L)) t z.2 z.1.2.length).length : Nat) : Int)) := by
  unfold Mm01.step
  simp only
  congr 1
  unfold Mm01.ints
  rw [List.map_map]
  apply List.ext_getElem?
  intro n
  rw [List.getElem?_map, List.getElem?_map, shown_get, List.getElem?_zipIdx]
  cases L[n]? with
  | none => rfl
  | some q =>
    simp only [Option.map_some, Function.comp, Nat.zero_add, List.length_map]
/-- a ring as shown -/
def shownPlaces (o : List Off) (t k : Nat) (q : PLine) : List Place := (shownPts o t k q.2.length).map fun i => q.2.getD i pz
theorem shownLine_places (o : List Off) (t k : Nat) (q : PLine) : (⟨q.1, (shownPts o t k q.2.length).map fun i => (i, q.2.getD i pz)⟩ : Line).places = shownPlaces o t k q := by
  unfold Line.places shownPlaces
  rw [List.map_map]
  rfl
end Geo
namespace Geo
open Mm01
/-- every line keeps two points at the least -/
theorem triple_some {l : Line} {i : Nat} {t : Place × Place × Place} (h : triple l i = some t) : 3 ≤ l.points.length := by
  unfold triple at h
  have hl : l.places.length = l.points.length := by unfold Line.places; rw [List.length_map]
  simp only [hl] at h
  split at h
  · split at h
    · cases h
    · omega
  · split at h
    · cases h
    · omega
theorem price_some {ls : List Line} {k i c : Nat} (h : price ls k i = some c) : 3 ≤ (ls.getD k lz).points.length := by
  unfold price at h
  rw [List.getD_eq_getElem?_getD]
  cases e : ls[k]? with
  | none => rw [e] at h; cases h
  | some l =>
    rw [e] at h
    simp only [Option.bind_some] at h
    cases e2 : triple l i with
    | none => rw [e2] at h; cases h
    | some t => exact triple_some e2
theorem goes_succ {f w : Nat} {ls : List Line} {c k i : Nat} (h : next ls = some (c, k, i)) : goes (f + 1) w ls = (k, (((ls.getD k lz).points.getD i (0, (0, 0))).1), max w c) :: goes f (max w c) (takeOut ls k i) := by
  show (match next ls with
    | none => []
    | some x =>
      let v := max w x.1
      (x.2.1, (((ls.getD x.2.1 ⟨false, []⟩).points.getD x.2.2 (0, (0, 0))).1), v) :: goes f v (takeOut ls x.2.1 x.2.2)) = _
  rw [h]
  rfl
theorem takeOut_getD {ls : List Line} {k i : Nat} (hk : k < ls.length) (j : Nat) : (takeOut ls k i).getD j lz = if k = j then { ls.getD k lz with points := (ls.getD k lz).points.eraseIdx i } else ls.getD j lz := by
  rw [takeOut_eq _ _ _ hk, List.getD_eq_getElem?_getD, List.getElem?_set]
  by_cases h : k = j
  · rw [if_pos h, if_pos hk, if_pos h]
    rfl
  · rw [if_neg h, if_neg h, List.getD_eq_getElem?_getD]
theorem stays : ∀ (f w : Nat) (ls : List Line), NumsOk ls → (∀ k, k < ls.length → 2 ≤ (ls.getD k lz).points.length) → ∀ k, k < ls.length → ∃ i, i ∈ nums (ls.getD k lz) ∧ ∀ x ∈ goes f w ls, ¬ (x.1 = k ∧ x.2.1 = i) := by
  intro f
  induction f with
  | zero =>
    intro w ls _ h2 k hk
    have h := h2 k hk
    refine ⟨(nums (ls.getD k lz)).getD 0 0, ?_, fun x hx => by cases hx⟩
    have hl : 0 < (nums (ls.getD k lz)).length := by unfold nums; rw [List.length_map]; omega
    exact getD_mem hl
  | succ f ih =>
    intro w ls hn h2 k hk
    cases e : next ls with
    | none =>
      rw [goes_none e]
      have h := h2 k hk
      refine ⟨(nums (ls.getD k lz)).getD 0 0, ?_, fun x hx => by cases hx⟩
      have hl : 0 < (nums (ls.getD k lz)).length := by unfold nums; rw [List.length_map]; omega
      exact getD_mem hl
    | some y =>
      obtain ⟨c, k', i'⟩ := y
      obtain ⟨hk', hi', hp⟩ := next_some_inv e
      have h3 := price_some hp
      have hlen : (takeOut ls k' i').length = ls.length := by rw [takeOut_eq _ _ _ hk', List.length_set]
      obtain ⟨i, hi, hno⟩ := ih (max w c) (takeOut ls k' i') (NumsOk_takeOut hn hk') (fun j hj => by
        rw [takeOut_getD hk']
        split
        · show 2 ≤ ((ls.getD k' lz).points.eraseIdx i').length
          rw [List.length_eraseIdx_of_lt hi']
          omega
        · exact h2 j (by omega)) k (by omega)
      rw [goes_succ e]
      rw [takeOut_getD hk'] at hi
      by_cases hkk : k' = k
      · subst hkk
        rw [if_pos rfl] at hi
        unfold nums at hi
        simp only at hi
        rw [← eraseIdx_map] at hi
        refine ⟨i, (List.eraseIdx_sublist _ _).mem hi, fun x hx => ?_⟩
        cases hx with
        | head =>
          rintro ⟨_, e2⟩
          have hl : ls.getD k' lz ∈ ls := by
            rw [List.getD_eq_getElem?_getD, List.getElem?_eq_getElem hk']
            exact List.getElem_mem hk'
          have nd := hn _ hl
          unfold nums at nd
          have hi2 : i' < ((ls.getD k' lz).points.map (·.1)).length := by rw [List.length_map]; exact hi'
          apply not_mem_eraseIdx nd hi2
          have eq : ((ls.getD k' lz).points.map (·.1))[i'] = ((ls.getD k' lz).points.getD i' (0, (0, 0))).1 := by
            rw [List.getElem_map]
            rw [List.getD_eq_getElem?_getD (l := (ls.getD k' lz).points), List.getElem?_eq_getElem hi']
            rfl
          rw [eq]
          simp only at e2
          rw [e2]
          exact hi
        | tail _ hx => exact hno x hx
      · rw [if_neg hkk] at hi
        refine ⟨i, hi, fun x hx => ?_⟩
        cases hx with
        | head =>
          rintro ⟨e1, _⟩
          exact hkk e1
        | tail _ hx => exact hno x hx
/-- of every line something is shown, at every scale -/
theorem shownPts_ne {L : List PLine} (hL : ∀ q ∈ L, 2 ≤ q.2.length) (t k : Nat) {q : PLine} (hq : L[k]? = some q) : shownPts (order (specOf L)) t k q.2.length ≠ [] := by
  have kl := (List.getElem?_eq_some_iff.mp hq).1
  have pts : ∀ j q', L[j]? = some q' → ((specOf L).getD j lz) = mkLine q'.1 q'.2 := fun j q' h => by
    rw [List.getD_eq_getElem?_getD, specL_get, h]
    rfl
  obtain ⟨i, hi, hno⟩ := stays (count (specOf L) + 1) 0 (specOf L) (NumsOk_mk L) (fun j hj => by
    rw [List.length_map] at hj
    rw [pts j _ (List.getElem?_eq_getElem hj)]
    unfold mkLine
    rw [List.length_map, List.length_zipIdx]
    exact hL _ (List.getElem_mem hj)) k (by rw [List.length_map]; exact kl)
  rw [pts k q hq, nums_mkLine] at hi
  intro e
  have : i ∈ shownPts (order (specOf L)) t k q.2.length := by
    unfold shownPts
    rw [List.mem_filter]
    refine ⟨hi, ?_⟩
    unfold isShown
    cases h : worthOf (order (specOf L)) k i with
    | none => rfl
    | some w =>
      have := worthOf_some h
      exact absurd ⟨rfl, rfl⟩ (hno _ this)
  rw [e] at this
  cases this
/-- area and round, over the stretches of the ring as shown -/
def areaOf (s : List Seg) : Int := (s.map fun s => s.1.1 * s.2.2 - s.1.2 * s.2.1).sum
def crossOf (p : Place) (s : Seg) : Int := if s.1.2 ≤ p.2 ∧ p.2 < s.2.2 ∧ 0 < turn s.1 s.2 p then 1 else if s.2.2 ≤ p.2 ∧ p.2 < s.1.2 ∧ turn s.1 s.2 p < 0 then -1 else 0
def roundOf (s : List Seg) (p : Place) : Int := (s.map (crossOf p)).sum
theorem foldl_addI (l : List Int) : ∀ a : Int, l.foldl (fun a b => a + b) a = a + l.sum := by
  induction l with
  | nil => intro a; simp
  | cons x r ih => intro a; rw [List.foldl_cons, ih, List.sum_cons]; omega
theorem step_area_eq (L : List PLine) (hL : ∀ q ∈ L, 2 ≤ q.2.length) (t k : Nat) : Mm01.step (specOf L) (.area t k) = (specOf L, match L[k]? with
    | none => [-3]
    | some q => if q.1 = false then [-4] else [0, areaOf (sidesOf true (shownPlaces (order (specOf L)) t k q))]) := by
  unfold Mm01.step
  simp only
  rw [shown_get]
  cases hq : L[k]? with
  | none => rfl
  | some q =>
    simp only [Option.map_some]
    congr 1
    cases hr : q.1 with
    | false => rfl
    | true =>
      simp only [Bool.true_eq_false, if_false]
      have hp := shownLine_places (order (specOf L)) t k q
      rw [hr] at hp
      have ne : shownPlaces (order (specOf L)) t k q ≠ [] := by
        unfold shownPlaces
        rw [ne_eq, List.map_eq_nil_iff]
        exact shownPts_ne hL t k hq
      unfold Mm01.area
      rw [sides_eq _ (by rw [hp]; exact ne), hp, foldl_addI, Int.zero_add]
      rfl
theorem step_round_eq (L : List PLine) (hL : ∀ q ∈ L, 2 ≤ q.2.length) (t k x y : Nat) : Mm01.step (specOf L) (.round t k x y) = (specOf L, match L[k]? with
    | none => [-3]
    | some q => if q.1 = false then [-4] else if ((sidesOf true (shownPlaces (order (specOf L)) t k q)).any fun s => onStretch ((x : Int), (y : Int)) s) = true then [-6] else [0, roundOf (sidesOf true (shownPlaces (order (specOf L)) t k q)) ((x : Int), (y : Int))]) := by
  unfold Mm01.step
  simp only
  rw [shown_get]
  cases hq : L[k]? with
  | none => rfl
  | some q =>
    simp only [Option.map_some]
    congr 1
    cases hr : q.1 with
    | false => rfl
    | true =>
      simp only [Bool.true_eq_false, if_false]
      have hp := shownLine_places (order (specOf L)) t k q
      rw [hr] at hp
      have ne : shownPlaces (order (specOf L)) t k q ≠ [] := by
        unfold shownPlaces
        rw [ne_eq, List.map_eq_nil_iff]
        exact shownPts_ne hL t k hq
      unfold Mm01.round
      rw [sides_eq _ (by rw [hp]; exact ne), hp, foldl_addI, Int.zero_add]
      simp only [onStretch_eq]
      rfl
theorem count_spec (L : List PLine) : count (specOf L) = (L.map fun q => q.2.length).sum := by
  rw [count_eq, List.map_map]
  congr 1
  apply List.map_congr_left
  intro q _
  show (mkLine q.1 q.2).points.length = q.2.length
  unfold mkLine
  rw [List.length_map, List.length_zipIdx]
theorem step_few_eq (L : List PLine) (n : Nat) : Mm01.step (specOf L) (.few n) = (specOf L, if (L.map fun q => q.2.length).sum ≤ n then [0] else match (order (specOf L))[(L.map fun q => q.2.length).sum - n - 1]? with
    | none => [-7]
    | some x => [((x.2.2 + 1 : Nat) : Int)]) := by
  unfold Mm01.step
  simp only
  rw [count_spec]
  congr 1
/-- worths do not fall -/
theorem goes_worth : ∀ (f w : Nat) (ls : List Line), (∀ x ∈ goes f w ls, w ≤ x.2.2) ∧ (goes f w ls).Pairwise (fun x y => x.2.2 ≤ y.2.2) := by
  intro f
  induction f with
  | zero => intro w ls; exact ⟨(fun x hx => by cases hx), List.Pairwise.nil⟩
  | succ f ih =>
    intro w ls
    cases e : next ls with
    | none => rw [goes_none e]; exact ⟨(fun x hx => by cases hx), List.Pairwise.nil⟩
    | some y =>
      obtain ⟨c, k, i⟩ := y
      rw [goes_succ e]
      obtain ⟨h1, h2⟩ := ih (max w c) (takeOut ls k i)
      refine ⟨fun x hx => ?_, ?_⟩
      · cases hx with
        | head => simp only; omega
        | tail _ hx => have := h1 x hx; omega
      · rw [List.pairwise_cons]
        exact ⟨fun x hx => h1 x hx, h2⟩
theorem order_worth (ls : List Line) : (order ls).Pairwise (fun x y => x.2.2 ≤ y.2.2) := (goes_worth _ _ _).2
end Geo
namespace PL
open PySem PySem.Spec PyProof.Rows L2 Evl
open Geo (Seg pz)
abbrev Pt := Mm01.Place
def top (i : Nat) : Stmt := PySem.Challenge.pw_plainerlines_s01_answers.main.body.getD i (.Pass ⟨0, 0, 0, 0⟩)
/-! ### data in the heap; every word here stays when the heap grows -/
def Each {α : Type} (R : V → α → Prop) : List V → List α → Prop
  | [], [] => True
  | v :: vs, x :: xs => R v x ∧ Each R vs xs
  | _, _ => False
section
variable {α : Type} {R S : V → α → Prop}
theorem Each.mono (f : ∀ v x, R v x → S v x) : ∀ {vs : List V} {xs : List α}, Each R vs xs → Each S vs xs
  | [], [], _ => trivial
  | _ :: _, _ :: _, h => ⟨f _ _ h.1, Each.mono f h.2⟩
  | [], _ :: _, h => h.elim
  | _ :: _, [], h => h.elim
theorem Each.length : ∀ {vs : List V} {xs : List α}, Each R vs xs → vs.length = xs.length
  | [], [], _ => rfl
  | _ :: _, _ :: _, h => by rw [List.length_cons, List.length_cons, Each.length h.2]
  | [], _ :: _, h => h.elim
  | _ :: _, [], h => h.elim
theorem Each.get : ∀ {vs : List V} {xs : List α} {i : Nat} {v : V}, Each R vs xs → vs[i]? = some v → ∃ x, xs[i]? = some x ∧ R v x
  | [], [], i, v, _, e => by simp at e
  | u :: _, x :: _, 0, v, h, e => by
    have e' : u = v := by simpa using e
    subst e'
    exact ⟨x, rfl, h.1⟩
  | _ :: vs, _ :: xs, i + 1, v, h, e => by
    obtain ⟨y, e1, e2⟩ := Each.get (i := i) (v := v) h.2 (by simpa using e)
    exact ⟨y, by simpa using e1, e2⟩
  | [], _ :: _, _, _, h, _ => h.elim
  | _ :: _, [], _, _, h, _ => h.elim
theorem Each.get' : ∀ {vs : List V} {xs : List α} {i : Nat} {x : α}, Each R vs xs → xs[i]? = some x → ∃ v, vs[i]? = some v ∧ R v x
  | [], [], i, v, _, e => by simp at e
  | u :: _, x :: _, 0, v, h, e => by
    have e' : x = v := by simpa using e
    subst e'
    exact ⟨u, rfl, h.1⟩
  | _ :: vs, _ :: xs, i + 1, v, h, e => by
    obtain ⟨y, e1, e2⟩ := Each.get' (i := i) (x := v) h.2 (by simpa using e)
    exact ⟨y, by simpa using e1, e2⟩
  | [], _ :: _, _, _, h, _ => h.elim
  | _ :: _, [], _, _, h, _ => h.elim
theorem Each.snoc {v : V} {x : α} (q : R v x) : ∀ {vs : List V} {xs : List α}, Each R vs xs → Each R (vs ++ [v]) (xs ++ [x])
  | [], [], _ => ⟨q, trivial⟩
  | _ :: _, _ :: _, h => ⟨h.1, Each.snoc q h.2⟩
  | [], _ :: _, h => h.elim
  | _ :: _, [], h => h.elim
theorem Each.append : ∀ {vs us : List V} {xs ys : List α}, Each R vs xs → Each R us ys → Each R (vs ++ us) (xs ++ ys)
  | [], _, [], _, _, k => k
  | _ :: _, _, _ :: _, _, h, k => ⟨h.1, Each.append h.2 k⟩
  | [], _, _ :: _, _, h, _ => h.elim
  | _ :: _, _, [], _, h, _ => h.elim
theorem Each.of_get : ∀ {vs : List V} {xs : List α}, vs.length = xs.length → (∀ (i : Nat) (v : V) (x : α), vs[i]? = some v → xs[i]? = some x → R v x) → Each R vs xs
  | [], [], _, _ => trivial
  | v :: vs, x :: xs, hl, h => ⟨h 0 v x rfl rfl, Each.of_get (by simpa using hl) fun i v' x' a b => h (i + 1) v' x' (by simpa using a) (by simpa using b)⟩
  | [], _ :: _, hl, _ => by simp at hl
  | _ :: _, [], hl, _ => by simp at hl
end
/-- a place: a tuple of two whole numbers -/
def Pl (H : Hp) (v : V) (p : Pt) : Prop := ∃ a, v = .ref a ∧ H a = some (.tup [.int p.1, .int p.2])
theorem Pl.ex {H H' : Hp} {v : V} {p : Pt} (s : Ex H H') (h : Pl H v p) : Pl H' v p := by
  obtain ⟨a, e, h⟩ := h
  exact ⟨a, e, s _ _ h⟩
/-- a stretch: a tuple of two places -/
def Sg (H : Hp) (v : V) (s : Seg) : Prop := ∃ a u w, v = .ref a ∧ H a = some (.tup [u, w]) ∧ Pl H u s.1 ∧ Pl H w s.2
theorem Sg.ex {H H' : Hp} {v : V} {p : Seg} (s : Ex H H') (h : Sg H v p) : Sg H' v p := by
  obtain ⟨a, u, w, e, h, h1, h2⟩ := h
  exact ⟨a, u, w, e, s _ _ h, h1.ex s, h2.ex s⟩
/-- a list of such -/
def Ls {α : Type} (R : Hp → V → α → Prop) (H : Hp) (v : V) (xs : List α) : Prop := ∃ a vs, v = .ref a ∧ H a = some (.lst vs) ∧ Each (R H) vs xs
theorem Ls.ex {α : Type} {R : Hp → V → α → Prop} (mono : ∀ (H H' : Hp) (v : V) (x : α), Ex H H' → R H v x → R H' v x) {H H' : Hp} {v : V} {xs : List α} (s : Ex H H') (h : Ls R H v xs) : Ls R H' v xs := by
  obtain ⟨a, vs, e, h, k⟩ := h
  exact ⟨a, vs, e, s _ _ h, k.mono fun v x => mono _ _ v x s⟩
theorem exP {H H' : Hp} {v : V} {xs : List Pt} (s : Ex H H') (h : Ls Pl H v xs) : Ls Pl H' v xs := Ls.ex (R := Pl) (fun _ _ _ _ => Pl.ex) s h
theorem exS {H H' : Hp} {v : V} {xs : List Seg} (s : Ex H H') (h : Ls Sg H v xs) : Ls Sg H' v xs := Ls.ex (R := Sg) (fun _ _ _ _ => Sg.ex) s h
theorem mul_ok {a : Int} (h : a.natAbs ≤ 1000000000000000000) : -(2 ^ 64) < a ∧ a < 2 ^ 64 := by
  have : (2 : Int) ^ 64 = 18446744073709551616 := by decide
  omega
/-- a place's numbers are small -/
def Sm (p : Pt) : Prop := (0 ≤ p.1 ∧ p.1 ≤ 4294967295) ∧ 0 ≤ p.2 ∧ p.2 ≤ 4294967295
def SmS (s : Seg) : Prop := Sm s.1 ∧ Sm s.2
section
variable {K : PySem.W.Frag} {σ : L2.St} {H : Hp} {ta : TE} {v : V} {p : Pt}
theorem ev_x (h : Ev ta σ H v) (hp : Pl H v p) : Ev (tOp (rIxT K) ta (tC (.int 0))) σ H (.int p.1) := by
  obtain ⟨a, rfl, hp⟩ := hp
  exact ev_op h ev_c (rv_ixT (st_of hp) (atI_nat (j := 0) rfl))
theorem ev_y (h : Ev ta σ H v) (hp : Pl H v p) : Ev (tOp (rIxT K) ta (tC (.int 1))) σ H (.int p.2) := by
  obtain ⟨a, rfl, hp⟩ := hp
  exact ev_op h ev_c (rv_ixT (st_of hp) (atI_nat (j := 1) rfl))
end
/-- the built-in names that the program uses are still Python's -/
structure Bi (mg : Str → Option Value) : Prop where
  min : mg "min" = none
  max : mg "max" = none
  len : mg "len" = none
  range : mg "range" = none
  set : mg "set" = none
  list : mg "list" = none
  sorted : mg "sorted" = none
  enumerate : mg "enumerate" = none
  any : mg "any" = none
  abs : mg "abs" = none
  sum : mg "sum" = none
  zip : mg "zip" = none
/-! ### bend -/
abbrev sBend : Stmt := top 2
def spBend : Sp := fun vs H Q _ => ∃ (a b c : V) (p q r : Pt), vs = [a, b, c] ∧ Pl H a p ∧ Pl H b q ∧ Pl H c r ∧ Sm p ∧ Sm q ∧ Sm r ∧ RetV (.int (Mm01.turn p q r)) H Q
theorem svBend {H : Hp} {a b c : V} {p q r : Pt} (ha : Pl H a p) (hb : Pl H b q) (hc : Pl H c r) (sp : Sm p) (sq : Sm q) (sr : Sm r) : SpV spBend [a, b, c] H (.int (Mm01.turn p q r)) :=
  fun H1 e Q k E => ⟨a, b, c, p, q, r, rfl, ha.ex e, hb.ex e, hc.ex e, sp, sq, sr, k⟩
section
variable {P : Program} {w : World} {K : PySem.W.Frag} {mg : Str → Option Value} {base : Heap}
theorem scBend : FnScope ["a", "b", "c"] ["a", "b", "c"] (defScope sBend) := ⟨rfl, rfl, rfl, by decide +kernel, rfl, by decide +kernel, by decide +kernel⟩
theorem ok_bend {f : Addr} {fd : FuncData} (F : Fun K "bend" "bend" sBend f fd) : FnOk P w K mg base CX0 1 f fd ["a", "b", "c"] spBend := by
  refine F.ok scBend (fun vs H Q E h => ?_) (fun cdv A outer s H vs Q E hr h => ?_)
  · obtain ⟨a, b, c, p, q, r, rfl, _⟩ := h
    rfl
  · obtain ⟨a, b, c, p, q, r, rfl, ha, hb, hc, sp, sq, sr, k⟩ := h
    refine ⟨_, pss_one (ps_ret (pe_op op_sub
      (pe_op op_mul (pe_op op_sub (pe_ix ix_tup (pv 1) pe_int (fun _ _ => rfl)) (pe_ix ix_tup (pv 0) pe_int (fun _ _ => rfl)))
        (pe_op op_sub (pe_ix ix_tup (pv 2) pe_int (fun _ _ => rfl)) (pe_ix ix_tup (pv 0) pe_int (fun _ _ => rfl))))
      (pe_op op_mul (pe_op op_sub (pe_ix ix_tup (pv 1) pe_int (fun _ _ => rfl)) (pe_ix ix_tup (pv 0) pe_int (fun _ _ => rfl)))
        (pe_op op_sub (pe_ix ix_tup (pv 2) pe_int (fun _ _ => rfl)) (pe_ix ix_tup (pv 0) pe_int (fun _ _ => rfl)))))), ?_⟩
    refine s_ret (v := .int (Mm01.turn p q r)) (ev_op
      (ev_op (ev_op (ev_x (ev_var rfl) hb) (ev_x (ev_var rfl) ha) rv_I0) (ev_op (ev_y (ev_var rfl) hc) (ev_y (ev_var rfl) ha) rv_I0) (rv_I (.inl (mul_ok (by unfold Sm at *; omega)))))
      (ev_op (ev_op (ev_y (ev_var rfl) hb) (ev_y (ev_var rfl) ha) rv_I0) (ev_op (ev_x (ev_var rfl) hc) (ev_x (ev_var rfl) ha) rv_I0) (rv_I (.inl (mul_ok (by unfold Sm at *; omega)))))
      rv_I0) k
end
end PL
namespace PL
open PySem PySem.Spec PyProof.Rows L2 Evl
open Geo (Seg pz)
/-- a def that keeps its promise, by its name -/
structure Dn (P : Program) (w : World) (K : PySem.W.Frag) (mg : Str → Option Value) (base : Heap) (k : Nat) (x : Str) (ps : List Str) (sp : Sp) : Prop where
  ex : ∃ f fd, FnOk P w K mg base CX0 k f fd ps sp ∧ mg x = some (.ref f) ∧ PySem.W.keepIn K (.ref f) = true ∧ Binds K fd ps []
theorem pe_d {X : Cx} {k n : Nat} {x : Str} {ps : List Str} {sp : Sp} {e : Expr} {es : List Expr} {t : TA} {p pos : Pos} (D : Dn X.prog X.w X.K X.mg X.base k x ps sp) (hr : Room n X.A) (hn : k ≤ n) (hg : Gl X x)
    (ha : PA X (e :: es) t) (hdb : (x == ("__debug__" : Str)) = false := by decide) (he : starEach (e :: es) X.env = (false, eval e X.env) :: starEach es X.env := by rfl) (hpl : (backTo pos (starEach es X.env)).any (·.1) = false := by rfl) :
    PE X (.Call (.Name x p) (e :: es) [] pos) (tCall sp [] E0 t) := by
  obtain ⟨f, fd, F, hm, hk, hb⟩ := D.ex
  exact pe_call F (hr.mono hn) hg hm hk hb .nil pass0 ha hdb he hpl
section
variable {K : PySem.W.Frag} {σ : L2.St} {H : Hp} {ta tb tc te : TE} {t : TT}
theorem ev_chain {f g : Int → Int → Bool} {i j k : Int} (ha : Ev ta σ H (.int i)) (hb : Ev tb σ H (.int j)) (hc : Ev tc σ H (.int k)) :
    Ev (tChain (rI0 fun i j => .bl (f i j)) (rI0 fun i j => .bl (g i j)) ta tb tc) σ H (.bl (f i j && g j k)) := fun H1 e Q q =>
  ha H1 e _ fun H2 e2 => hb H2 (e.trans e2) _ fun H3 e3 => ⟨i, j, rfl, rfl, f i j, rfl, by
    cases hb : f i j with
    | true =>
      rw [hb] at q
      show tc σ H3 _
      exact hc H3 ((e.trans e2).trans e3) _ fun H4 e4 => ⟨j, k, rfl, rfl, q H4 ((e2.trans e3).trans e4)⟩
    | false =>
      rw [hb] at q
      show Q (.bl false) H3
      exact q H3 (e2.trans e3)⟩
theorem ev_min {a : Addr} {ns : List Int} (h : Ev ta σ H (.ref a)) (hs : SqL K H a (ns.map V.int)) (hn : 0 < ns.length) : Ev (tCB (rMin K) (tCons ta tNil)) σ H (.int (Geo.lmin ns)) := fun H1 e Q q =>
  h H1 e _ fun H2 e2 => ⟨a, ns, rfl, ex_l (e.trans e2) hs, hn, fun m h1 h2 => by
    rw [Geo.lmin_eq h1 h2]
    exact q H2 e2⟩
theorem ev_max {a : Addr} {ns : List Int} (h : Ev ta σ H (.ref a)) (hs : SqL K H a (ns.map V.int)) (hn : 0 < ns.length) : Ev (tCB (rMax K) (tCons ta tNil)) σ H (.int (Geo.lmax ns)) := fun H1 e Q q =>
  h H1 e _ fun H2 e2 => ⟨a, ns, rfl, ex_l (e.trans e2) hs, hn, fun m h1 h2 => by
    rw [Geo.lmax_eq h1 h2]
    exact q H2 e2⟩
theorem et_yes : EvT tYes σ H true := fun H1 _ _ q => q H1 (Ex.refl H1)
theorem el_lcT {a : Addr} {xs : List V} {tl : TE} {j : Nat} {vs : List Nat} (f : Nat → Bool) (v : Nat → V) (h : Ev tl σ H (.ref a)) (hx : SqT K H a xs) (hz : xs.length ≤ 40000) (hw : ∀ x, wipe ((wipe σ vs).set j (some x)) vs = wipe σ vs)
    (ht : ∀ (i : Nat) (x : V) H1, Ex H H1 → xs[i]? = some x → EvT t ((wipe σ vs).set j (some x)) H1 (f i)) (he : ∀ (i : Nat) (x : V) H1, Ex H H1 → xs[i]? = some x → f i = true → Ev te ((wipe σ vs).set j (some x)) H1 (v i)) :
    EvL (tLc (iTup K tl) (gName j) t te vs) σ H (given xs.length f v) := fun H0 e Q q => h H0 e _ fun H1 e1 => ⟨a, rfl, ⟨xs, ex_t (e.trans e1) hx⟩, fun Dl hD =>
  lc_tup (xs := xs) (Cw H1 f v Dl) ⟨hD, Ex.new hD, upd_same⟩ (fun i H' _ p => ex_t ((e.trans e1).trans p.2.1) hx) (fun i x H' hi p => ⟨hw x, cw_turn p (by have := (List.getElem?_eq_some_iff.mp hi).1; omega) (ht i x H1 (e.trans e1) hi) (fun hf => he i x H1 (e.trans e1) hi hf)⟩)
    (fun H' p => q Dl H' (fresh_back e1 p.1) (e1.trans p.2.1) p.2.2)⟩
end
theorem given_all {α : Type} {xs : List V} {ys : List α} {g : α → V} {d : α} (hl : xs.length = ys.length) : given xs.length (fun _ => true) (fun i => g (ys.getD i d)) = ys.map g := by
  unfold given
  rw [List.filter_eq_self.mpr (fun _ _ => rfl)]
  apply List.ext_getElem?
  intro n
  rw [List.getElem?_map, List.getElem?_map]
  by_cases h : n < ys.length
  · rw [List.getElem?_eq_getElem (by rw [List.length_range]; omega), List.getElem?_eq_getElem h]
    simp [h]
  · rw [List.getElem?_eq_none (by rw [List.length_range]; omega), List.getElem?_eq_none (by omega)]
    rfl
theorem map_x (ps : List Pt) : ps.map (fun q => V.int q.1) = (ps.map (·.1)).map V.int := by rw [List.map_map]; rfl
theorem map_y (ps : List Pt) : ps.map (fun q => V.int q.2) = (ps.map (·.2)).map V.int := by rw [List.map_map]; rfl
/-- some places, in a list or a tuple -/
def PlsAny (H : Hp) (c : V) (ps : List Pt) : Prop := ∃ a vs, c = .ref a ∧ (H a = some (.lst vs) ∨ H a = some (.tup vs)) ∧ Each (Pl H) vs ps
theorem PlsAny.ex {H H' : Hp} {c : V} {ps : List Pt} (s : Ex H H') (h : PlsAny H c ps) : PlsAny H' c ps := by
  obtain ⟨a, vs, e, h, k⟩ := h
  exact ⟨a, vs, e, h.imp (s _ _) (s _ _), k.mono fun v x => Pl.ex s⟩
theorem Sg.any {H : Hp} {v : V} {s : Seg} (h : Sg H v s) : PlsAny H v [s.1, s.2] := by
  obtain ⟨a, u, w, e, h, h1, h2⟩ := h
  exact ⟨a, [u, w], e, Or.inr h, h1, h2, trivial⟩
/-! ### in_box -/
abbrev sBox : Stmt := top 3
def spBox : Sp := fun vs H Q _ => ∃ (v c : V) (p : Pt) (ps : List Pt), vs = [v, c] ∧ Pl H v p ∧ PlsAny H c ps ∧ 0 < ps.length ∧ ps.length ≤ 100 ∧ RetV (.bl (Geo.inBox p ps)) H Q
theorem svBox {H : Hp} {v c : V} {p : Pt} {ps : List Pt} (h : Pl H v p) (hc : PlsAny H c ps) (h0 : 0 < ps.length) (h1 : ps.length ≤ 100) : SpV spBox [v, c] H (.bl (Geo.inBox p ps)) :=
  fun H1 e Q k E => ⟨v, c, p, ps, rfl, h.ex e, hc.ex e, h0, h1, k⟩
section
variable {P : Program} {w : World} {K : PySem.W.Frag} {mg : Str → Option Value} {base : Heap}
abbrev nBox : List Str := ["place", "corners", "xs", "ys", "corner"]
theorem scBox : FnScope nBox ["place", "corners"] (defScope sBox) := ⟨rfl, rfl, rfl, by decide +kernel, rfl, by decide +kernel, by decide +kernel⟩
theorem ok_box {f : Addr} {fd : FuncData} (F : Fun K "in_box" "in_box" sBox f fd) (B : Bi mg) : FnOk P w K mg base CX0 1 f fd ["place", "corners"] spBox := by
  refine F.ok scBox (fun vs H Q E h => ?_) (fun cdv A outer s H vs Q E hr h => ?_)
  · obtain ⟨v, c, p, ps, rfl, _⟩ := h
    rfl
  · obtain ⟨v, _, p, ps, rfl, hv, ⟨a, vs, rfl, hc, he⟩, h0, h1, k⟩ := h
    have hl := he.length
    have tail : ∀ (H2 : Hp) (D1 D2 : Addr) (o : Option V), Ex H H2 → H2 D1 = some (.lst ((ps.map (·.1)).map V.int)) → H2 D2 = some (.lst ((ps.map (·.2)).map V.int)) →
        tRet (tAndV (tChain (rI0 fun i j => .bl (decide (i ≤ j))) (rI0 fun i j => .bl (decide (i ≤ j))) (tCB (rMin K) (tCons (tVar 2) tNil)) (tOp (rIxT K) (tVar 0) (tC (.int 0))) (tCB (rMax K) (tCons (tVar 2) tNil)))
          (tChain (rI0 fun i j => .bl (decide (i ≤ j))) (rI0 fun i j => .bl (decide (i ≤ j))) (tCB (rMin K) (tCons (tVar 3) tNil)) (tOp (rIxT K) (tVar 0) (tC (.int 1))) (tCB (rMax K) (tCons (tVar 3) tNil))))
          { nx := fun _ H' => Q .non H', rt := Q } [some v, some (.ref a), some (.ref D1), some (.ref D2), o] H2 := fun H2 D1 D2 o e d1 d2 => by
      refine s_ret (v := .bl (Geo.inBox p ps)) (ev_andV
        (ev_chain (ev_min (ev_var rfl) (sq_of d1) (by simpa using h0)) (ev_x (ev_var rfl) (hv.ex e)) (ev_max (ev_var rfl) (sq_of d1) (by simpa using h0)))
        fun _ => (ev_chain (ev_min (ev_var rfl) (sq_of d2) (by simpa using h0)) (ev_y (ev_var rfl) (hv.ex e)) (ev_max (ev_var rfl) (sq_of d2) (by simpa using h0)))) fun H3 e3 => k H3 (e.trans e3)
    rcases hc with hc | hc
    · refine ⟨_, pss_cons (ps_setLc (i := 2) (own := [("corner", 4)]) (g := gName 4) (tt := tYes) (te := tOp (rIxT K) (tVar 4) (tC (.int 0))) rfl scBox.nd rfl rfl (sw_true rfl rfl rfl (by decide +kernel)) (pi_list (pv 1)) (blkOk_by (N := nBox) (sc := defScope sBox) (by decide +kernel))
          (fun _ _ _ _ _ => pg_name (i := 4) scBox.nd rfl (Or.inl rfl)) (fun _ _ _ _ _ => pts_nil) (fun _ _ _ _ _ => pe_ix ix_tup (pv 4) pe_int (fun _ _ => rfl)))
        (pss_cons (ps_setLc (i := 3) (own := [("corner", 4)]) (g := gName 4) (tt := tYes) (te := tOp (rIxT K) (tVar 4) (tC (.int 1))) rfl scBox.nd rfl rfl (sw_true rfl rfl rfl (by decide +kernel)) (pi_list (pv 1)) (blkOk_by (N := nBox) (sc := defScope sBox) (by decide +kernel))
          (fun _ _ _ _ _ => pg_name (i := 4) scBox.nd rfl (Or.inl rfl)) (fun _ _ _ _ _ => pts_nil) (fun _ _ _ _ _ => pe_ix ix_tup (pv 4) pe_int (fun _ _ => rfl)))
        (pss_one (ps_ret (pe_and (pe_chain op_le op_le (pe_callB (cr_min rfl) (by rfl) B.min (by decide +kernel) (pa_cons (pv 2) pa_nil)) (pe_ix ix_tup (pv 0) pe_int (fun _ _ => rfl)) (pe_callB (cr_max rfl) (by rfl) B.max (by decide +kernel) (pa_cons (pv 2) pa_nil)))
          (pe_one (pe_chain op_le op_le (pe_callB (cr_min rfl) (by rfl) B.min (by decide +kernel) (pa_cons (pv 3) pa_nil)) (pe_ix ix_tup (pv 0) pe_int (fun _ _ => rfl)) (pe_callB (cr_max rfl) (by rfl) B.max (by decide +kernel) (pa_cons (pv 3) pa_nil)))))))), ?_⟩
      refine q_asgL (el_lcL (xs := vs) (fun _ => true) (fun i => V.int (ps.getD i pz).1) (ev_var rfl) (sq_of hc) (by omega) (fun x => rfl) (fun i x H1 e hi => et_yes) (fun i x H1 e hi _ => ?_)) fun D1 H1 hD1 e1 d1 => ?_
      · obtain ⟨q, hq, pl⟩ := he.get hi
        have : ps.getD i pz = q := by rw [List.getD_eq_getElem?_getD, hq]; rfl
        rw [this]
        exact ev_x (ev_var rfl) (pl.ex e)
      refine q_asgL (el_lcL (xs := vs) (fun _ => true) (fun i => V.int (ps.getD i pz).2) (ev_var rfl) (ex_l e1 (sq_of hc)) (by omega) (fun x => rfl) (fun i x H1 e hi => et_yes) (fun i x H1 e hi _ => ?_)) fun D2 H2 hD2 e2 d2 => ?_
      · obtain ⟨q, hq, pl⟩ := he.get hi
        have : ps.getD i pz = q := by rw [List.getD_eq_getElem?_getD, hq]; rfl
        rw [this]
        exact ev_y (ev_var rfl) ((pl.ex e1).ex e)
      rw [given_all (g := fun q : Pt => V.int q.1) hl, map_x] at d1
      rw [given_all (g := fun q : Pt => V.int q.2) hl, map_y] at d2
      exact tail H2 D1 D2 _ (e1.trans e2) (e2 _ _ d1) d2
    · refine ⟨_, pss_cons (ps_setLc (i := 2) (own := [("corner", 4)]) (g := gName 4) (tt := tYes) (te := tOp (rIxT K) (tVar 4) (tC (.int 0))) rfl scBox.nd rfl rfl (sw_true rfl rfl rfl (by decide +kernel)) (pi_tup (pv 1)) (blkOk_by (N := nBox) (sc := defScope sBox) (by decide +kernel))
          (fun _ _ _ _ _ => pg_name (i := 4) scBox.nd rfl (Or.inl rfl)) (fun _ _ _ _ _ => pts_nil) (fun _ _ _ _ _ => pe_ix ix_tup (pv 4) pe_int (fun _ _ => rfl)))
        (pss_cons (ps_setLc (i := 3) (own := [("corner", 4)]) (g := gName 4) (tt := tYes) (te := tOp (rIxT K) (tVar 4) (tC (.int 1))) rfl scBox.nd rfl rfl (sw_true rfl rfl rfl (by decide +kernel)) (pi_tup (pv 1)) (blkOk_by (N := nBox) (sc := defScope sBox) (by decide +kernel))
          (fun _ _ _ _ _ => pg_name (i := 4) scBox.nd rfl (Or.inl rfl)) (fun _ _ _ _ _ => pts_nil) (fun _ _ _ _ _ => pe_ix ix_tup (pv 4) pe_int (fun _ _ => rfl)))
        (pss_one (ps_ret (pe_and (pe_chain op_le op_le (pe_callB (cr_min rfl) (by rfl) B.min (by decide +kernel) (pa_cons (pv 2) pa_nil)) (pe_ix ix_tup (pv 0) pe_int (fun _ _ => rfl)) (pe_callB (cr_max rfl) (by rfl) B.max (by decide +kernel) (pa_cons (pv 2) pa_nil)))
          (pe_one (pe_chain op_le op_le (pe_callB (cr_min rfl) (by rfl) B.min (by decide +kernel) (pa_cons (pv 3) pa_nil)) (pe_ix ix_tup (pv 0) pe_int (fun _ _ => rfl)) (pe_callB (cr_max rfl) (by rfl) B.max (by decide +kernel) (pa_cons (pv 3) pa_nil)))))))), ?_⟩
      refine q_asgL (el_lcT (xs := vs) (fun _ => true) (fun i => V.int (ps.getD i pz).1) (ev_var rfl) (st_of hc) (by omega) (fun x => rfl) (fun i x H1 e hi => et_yes) (fun i x H1 e hi _ => ?_)) fun D1 H1 hD1 e1 d1 => ?_
      · obtain ⟨q, hq, pl⟩ := he.get hi
        have : ps.getD i pz = q := by rw [List.getD_eq_getElem?_getD, hq]; rfl
        rw [this]
        exact ev_x (ev_var rfl) (pl.ex e)
      refine q_asgL (el_lcT (xs := vs) (fun _ => true) (fun i => V.int (ps.getD i pz).2) (ev_var rfl) (ex_t e1 (st_of hc)) (by omega) (fun x => rfl) (fun i x H1 e hi => et_yes) (fun i x H1 e hi _ => ?_)) fun D2 H2 hD2 e2 d2 => ?_
      · obtain ⟨q, hq, pl⟩ := he.get hi
        have : ps.getD i pz = q := by rw [List.getD_eq_getElem?_getD, hq]; rfl
        rw [this]
        exact ev_y (ev_var rfl) ((pl.ex e1).ex e)
      rw [given_all (g := fun q : Pt => V.int q.1) hl, map_x] at d1
      rw [given_all (g := fun q : Pt => V.int q.2) hl, map_y] at d2
      exact tail H2 D1 D2 _ (e1.trans e2) (e2 _ _ d1) d2
end
end PL
namespace PL
open PySem PySem.Spec PyProof.Rows L2 Evl
open Geo (Seg pz)
abbrev dBend (P : Program) (w : World) (K : PySem.W.Frag) (mg : Str → Option Value) (base : Heap) : Prop := Dn P w K mg base 1 "bend" ["a", "b", "c"] spBend
abbrev dBox (P : Program) (w : World) (K : PySem.W.Frag) (mg : Str → Option Value) (base : Heap) : Prop := Dn P w K mg base 1 "in_box" ["place", "corners"] spBox
/-! ### in_triangle -/
abbrev sTri : Stmt := top 4
def Pls3 (H : Hp) (c : V) (x y z : Pt) : Prop := Ls Pl H c [x, y, z]
def spTri : Sp := fun vs H Q _ => ∃ (v c : V) (p x y z : Pt), vs = [v, c] ∧ Pl H v p ∧ Ls Pl H c [x, y, z] ∧ Sm p ∧ Sm x ∧ Sm y ∧ Sm z ∧ RetV (.bl (Geo.inTri p x y z)) H Q
theorem svTri {H : Hp} {v c : V} {p x y z : Pt} (h : Pl H v p) (hc : Ls Pl H c [x, y, z]) (sp : Sm p) (sx : Sm x) (sy : Sm y) (sz : Sm z) : SpV spTri [v, c] H (.bl (Geo.inTri p x y z)) :=
  fun H1 e Q k E => ⟨v, c, p, x, y, z, rfl, h.ex e, exP e hc, sp, sx, sy, sz, k⟩
section
variable {P : Program} {w : World} {K : PySem.W.Frag} {mg : Str → Option Value} {base : Heap}
theorem scTri : FnScope ["place", "corners", "a", "b", "c", "bends"] ["place", "corners"] (defScope sTri) := ⟨rfl, rfl, rfl, by decide +kernel, rfl, by decide +kernel, by decide +kernel⟩
theorem ok_tri {f : Addr} {fd : FuncData} (F : Fun K "in_triangle" "in_triangle" sTri f fd) (B : Bi mg) (DB : dBend P w K mg base) (DX : dBox P w K mg base) : FnOk P w K mg base CX0 2 f fd ["place", "corners"] spTri := by
  refine F.ok scTri (fun vs H Q E h => ?_) (fun cdv A outer s H vs Q E hr h => ?_)
  · obtain ⟨v, c, p, x, y, z, rfl, _⟩ := h
    rfl
  · obtain ⟨v, c, p, x, y, z, rfl, hv, hcs, sp, sx, sy, sz, k⟩ := h
    obtain ⟨a, vs, rfl, hc, he⟩ := id hcs
    match vs, he with
    | [vx, vy, vz], ⟨px, py, pz, _⟩ =>
    refine ⟨_, pss_cons (ps_set (i := 2) scTri.nd rfl (Or.inl rfl) (pe_ix ix_list (pv 1) pe_int (fun _ _ => rfl)))
      (pss_cons (ps_set (i := 3) scTri.nd rfl (Or.inl rfl) (pe_ix ix_list (pv 1) pe_int (fun _ _ => rfl)))
      (pss_cons (ps_set (i := 4) scTri.nd rfl (Or.inl rfl) (pe_ix ix_list (pv 1) pe_int (fun _ _ => rfl)))
      (pss_cons (ps_set (i := 5) scTri.nd rfl (Or.inl rfl) (pe_lst (pa_cons (pe_d DB hr (by decide) rfl (pa_cons (pv 2) (pa_cons (pv 3) (pa_cons (pv 0) pa_nil))))
        (pa_cons (pe_d DB hr (by decide) rfl (pa_cons (pv 3) (pa_cons (pv 4) (pa_cons (pv 0) pa_nil)))) (pa_cons (pe_d DB hr (by decide) rfl (pa_cons (pv 4) (pa_cons (pv 2) (pa_cons (pv 0) pa_nil)))) pa_nil)))))
      (pss_cons (ps_if (PW.pt (pw_and (pt_cmpR op_lt (pe_callB (cr_min rfl) (by rfl) B.min (by decide +kernel) (pa_cons (pv 5) pa_nil)) pe_int (nomark _))
          (pw_and1 (pt_cmpR op_gt (pe_callB (cr_max rfl) (by rfl) B.max (by decide +kernel) (pa_cons (pv 5) pa_nil)) pe_int (nomark _))))) (pss_one (ps_ret pe_bl)) pss_nil)
      (pss_one (ps_ret (pe_d DX hr (by decide) rfl (pa_cons (pv 0) (pa_cons (pv 1) pa_nil))))))))), ?_⟩
    refine q_asg (ev_op (ev_var rfl) ev_c (rv_ixL (sq_of hc) (atI_nat (j := 0) rfl))) fun H1 e1 => ?_
    refine q_asg (ev_op (ev_var rfl) ev_c (rv_ixL (sq_of (e1 _ _ hc)) (atI_nat (j := 1) rfl))) fun H2 e2 => ?_
    have e02 := e1.trans e2
    refine q_asg (ev_op (ev_var rfl) ev_c (rv_ixL (sq_of (e02 _ _ hc)) (atI_nat (j := 2) rfl))) fun H3 e3 => ?_
    have e03 := e02.trans e3
    refine q_asgL (el_lst (ea_cons (ev_call (ea_cons (ev_var rfl) (ea_cons (ev_var rfl) (ea_cons (ev_var rfl) ea_nil))) (svBend (px.ex e03) (py.ex e03) (hv.ex e03) sx sy sp))
      (ea_cons (ev_call (ea_cons (ev_var rfl) (ea_cons (ev_var rfl) (ea_cons (ev_var rfl) ea_nil))) (svBend (py.ex e03) (pz.ex e03) (hv.ex e03) sy sz sp))
      (ea_cons (ev_call (ea_cons (ev_var rfl) (ea_cons (ev_var rfl) (ea_cons (ev_var rfl) ea_nil))) (svBend (pz.ex e03) (px.ex e03) (hv.ex e03) sz sx sp)) ea_nil))) (by show 3 ≤ 100000; decide)) fun D H4 hD e4 d4 => ?_
    have e04 := e03.trans e4
    have sq : SqL K H4 D (([Mm01.turn x y p, Mm01.turn y z p, Mm01.turn z x p] : List Int).map V.int) := sq_of d4
    refine q_when (et_and (et_test (ev_op (ev_min (ev_var rfl) sq (Nat.succ_pos _)) ev_c rv_I0)) (fun _ => et_test (ev_op (ev_max (ev_var rfl) sq (Nat.succ_pos _)) ev_c rv_I0))) (fun hb H5 e5 => ?_) (fun hb H5 e5 => ?_)
    · refine s_ret ev_c fun H6 e6 => ?_
      have : Geo.inTri p x y z = false := by
        unfold Geo.inTri
        rw [if_pos]
        simpa using hb
      rw [this] at k
      exact k H6 ((e04.trans e5).trans e6)
    · have e05 := e04.trans e5
      have : Geo.inTri p x y z = Geo.inBox p [x, y, z] := by
        unfold Geo.inTri
        rw [if_neg]
        intro h
        have : (decide (Geo.lmin [Mm01.turn x y p, Mm01.turn y z p, Mm01.turn z x p] < 0) && decide (0 < Geo.lmax [Mm01.turn x y p, Mm01.turn y z p, Mm01.turn z x p])) = true := by
          rw [Bool.and_eq_true]
          exact ⟨decide_eq_true h.1, decide_eq_true h.2⟩
        rw [hb] at this
        cases this
      rw [this] at k
      exact s_ret (ev_call (ea_cons (ev_var rfl) (ea_cons (ev_var rfl) ea_nil)) (svBox (ps := [x, y, z]) (hv.ex e05) (PlsAny.ex e05 (ps := [x, y, z]) ⟨a, _, rfl, Or.inl hc, ⟨px, py, pz, trivial⟩⟩) (Nat.succ_pos _) (by show 3 ≤ 100; decide))) fun H6 e6 => k H6 (e05.trans e6)
end
/-! ### on_stretch -/
abbrev sOn : Stmt := top 5
def spOn : Sp := fun vs H Q _ => ∃ (v c : V) (p : Pt) (s : Seg), vs = [v, c] ∧ Pl H v p ∧ Sg H c s ∧ Sm p ∧ SmS s ∧ RetV (.bl (Geo.onStretch p s)) H Q
theorem svOn {H : Hp} {v c : V} {p : Pt} {s : Seg} (h : Pl H v p) (hc : Sg H c s) (sp : Sm p) (ss : SmS s) : SpV spOn [v, c] H (.bl (Geo.onStretch p s)) :=
  fun H1 e Q k E => ⟨v, c, p, s, rfl, h.ex e, hc.ex e, sp, ss, k⟩
theorem decV (i j : Int) : decide (V.int i = V.int j) = decide (i = j) := by
  by_cases h : i = j
  · subst h; simp
  · rw [decide_eq_false h, decide_eq_false (fun e => h (V.int.inj e))]
section
variable {K : PySem.W.Frag} {σ : L2.St} {H : Hp} {ta : TE} {v : V} {s : Seg}
/-- the ends of a stretch -/
theorem ev_end (h : Ev ta σ H v) (hs : Sg H v s) : ∃ u w, Pl H u s.1 ∧ Pl H w s.2 ∧ Ev (tOp (rIxT K) ta (tC (.int 0))) σ H u ∧ Ev (tOp (rIxT K) ta (tC (.int 1))) σ H w := by
  obtain ⟨a, u, w, rfl, hs, h1, h2⟩ := hs
  exact ⟨u, w, h1, h2, ev_op h ev_c (rv_ixT (st_of hs) (atI_nat (j := 0) rfl)), ev_op h ev_c (rv_ixT (st_of hs) (atI_nat (j := 1) rfl))⟩
end
section
variable {P : Program} {w : World} {K : PySem.W.Frag} {mg : Str → Option Value} {base : Heap}
theorem scOn : FnScope ["place", "stretch"] ["place", "stretch"] (defScope sOn) := ⟨rfl, rfl, rfl, by decide +kernel, rfl, by decide +kernel, by decide +kernel⟩
theorem ok_on {f : Addr} {fd : FuncData} (F : Fun K "on_stretch" "on_stretch" sOn f fd) (DB : dBend P w K mg base) (DX : dBox P w K mg base) : FnOk P w K mg base CX0 2 f fd ["place", "stretch"] spOn := by
  refine F.ok scOn (fun vs H Q E h => ?_) (fun cdv A outer s H vs Q E hr h => ?_)
  · obtain ⟨v, c, p, s, rfl, _⟩ := h
    rfl
  · obtain ⟨v, c, p, g, rfl, hv, hg, sp, sg, k⟩ := h
    refine ⟨_, pss_one (ps_ret (pe_and (pe_cmpR op_eq (pe_d DB hr (by decide) rfl (pa_cons (pe_ix ix_tup (pv 1) pe_int (fun _ _ => rfl)) (pa_cons (pe_ix ix_tup (pv 1) pe_int (fun _ _ => rfl)) (pa_cons (pv 0) pa_nil)))) pe_int (nomark _))
      (pe_one (pe_d DX hr (by decide) rfl (pa_cons (pv 0) (pa_cons (pv 1) pa_nil)))))), ?_⟩
    obtain ⟨u, w', h1, h2, v1, v2⟩ := ev_end (K := K) (ta := tVar 1) (σ := [some v, some c]) (H := H) (ev_var rfl) hg
    refine s_ret (v := .bl (Geo.onStretch p g)) (ev_is (ev_andV (ev_op (ev_call (ea_cons v1 (ea_cons v2 (ea_cons (ev_var rfl) ea_nil))) (svBend h1 h2 hv sg.1 sg.2 sp)) ev_c (rv_eq rfl))
      (fun _ => ev_call (ea_cons (ev_var rfl) (ea_cons (ev_var rfl) ea_nil)) (svBox hv hg.any (Nat.succ_pos _) (by show 2 ≤ 100; decide)))) ?_) k
    rw [decV]
    rfl
end
end PL
namespace PL
open PySem PySem.Spec PyProof.Rows L2 Evl
open Geo (Seg pz)
abbrev dOn (P : Program) (w : World) (K : PySem.W.Frag) (mg : Str → Option Value) (base : Heap) : Prop := Dn P w K mg base 2 "on_stretch" ["place", "stretch"] spOn
/-- a place of the map -/
def Sk (p : Pt) : Prop := (0 ≤ p.1 ∧ p.1 ≤ 1000) ∧ 0 ≤ p.2 ∧ p.2 ≤ 1000
def SkS (s : Seg) : Prop := Sk s.1 ∧ Sk s.2
theorem Sk.sm {p : Pt} (h : Sk p) : Sm p := by unfold Sk at h; unfold Sm; omega
theorem SkS.sm {s : Seg} (h : SkS s) : SmS s := ⟨h.1.sm, h.2.sm⟩
theorem abs_mul {a b : Int} {A B : Nat} (ha : a.natAbs ≤ A) (hb : b.natAbs ≤ B) : (a * b).natAbs ≤ A * B := by
  rw [Int.natAbs_mul]
  exact Nat.mul_le_mul ha hb
/-- a turn of places of the map is small -/
theorem turn_small {p q r : Pt} (hp : Sk p) (hq : Sk q) (hr : Sk r) : (Mm01.turn p q r).natAbs ≤ 2000000 := by
  have h1 := abs_mul (a := q.1 - p.1) (b := r.2 - p.2) (A := 1000) (B := 1000) (by unfold Sk at *; omega) (by unfold Sk at *; omega)
  have h2 := abs_mul (a := q.2 - p.2) (b := r.1 - p.1) (A := 1000) (B := 1000) (by unfold Sk at *; omega) (by unfold Sk at *; omega)
  unfold Mm01.turn
  omega
/-! ### ends_on_two_sides -/
abbrev sTwo : Stmt := top 6
def spTwo : Sp := fun vs H Q _ => ∃ (v c : V) (s o : Seg), vs = [v, c] ∧ Sg H v s ∧ Sg H c o ∧ SkS s ∧ SkS o ∧ RetV (.bl (Geo.twoSides s o)) H Q
theorem svTwo {H : Hp} {v c : V} {s o : Seg} (h : Sg H v s) (hc : Sg H c o) (ss : SkS s) (so : SkS o) : SpV spTwo [v, c] H (.bl (Geo.twoSides s o)) :=
  fun H1 e Q k E => ⟨v, c, s, o, rfl, h.ex e, hc.ex e, ss, so, k⟩
section
variable {P : Program} {w : World} {K : PySem.W.Frag} {mg : Str → Option Value} {base : Heap}
theorem scTwo : FnScope ["stretch", "other", "first", "second"] ["stretch", "other"] (defScope sTwo) := ⟨rfl, rfl, rfl, by decide +kernel, rfl, by decide +kernel, by decide +kernel⟩
theorem ok_two {f : Addr} {fd : FuncData} (F : Fun K "ends_on_two_sides" "ends_on_two_sides" sTwo f fd) (DB : dBend P w K mg base) : FnOk P w K mg base CX0 2 f fd ["stretch", "other"] spTwo := by
  refine F.ok scTwo (fun vs H Q E h => ?_) (fun cdv A outer s H vs Q E hr h => ?_)
  · obtain ⟨v, c, s, o, rfl, _⟩ := h
    rfl
  · obtain ⟨v, c, g, o, rfl, hg, ho, sg, so, k⟩ := h
    refine ⟨_, pss_cons (ps_set (i := 2) scTwo.nd rfl (Or.inl rfl) (pe_d DB hr (by decide) rfl (pa_cons (pe_ix ix_tup (pv 0) pe_int (fun _ _ => rfl)) (pa_cons (pe_ix ix_tup (pv 0) pe_int (fun _ _ => rfl)) (pa_cons (pe_ix ix_tup (pv 1) pe_int (fun _ _ => rfl)) pa_nil)))))
      (pss_cons (ps_set (i := 3) scTwo.nd rfl (Or.inl rfl) (pe_d DB hr (by decide) rfl (pa_cons (pe_ix ix_tup (pv 0) pe_int (fun _ _ => rfl)) (pa_cons (pe_ix ix_tup (pv 0) pe_int (fun _ _ => rfl)) (pa_cons (pe_ix ix_tup (pv 1) pe_int (fun _ _ => rfl)) pa_nil)))))
      (pss_one (ps_ret (pe_cmpR op_lt (pe_op op_mul (pv 2) (pv 3)) pe_int (nomark _))))), ?_⟩
    obtain ⟨u, w', h1, h2, v1, v2⟩ := ev_end (K := K) (ta := tVar 0) (σ := L2.start ["stretch", "other", "first", "second"] [v, c]) (H := H) (ev_var rfl) hg
    obtain ⟨u', w'', h3, h4, v3, v4⟩ := ev_end (K := K) (ta := tVar 1) (σ := L2.start ["stretch", "other", "first", "second"] [v, c]) (H := H) (ev_var rfl) ho
    refine q_asg (ev_call (ea_cons v1 (ea_cons v2 (ea_cons v3 ea_nil))) (svBend h1 h2 h3 sg.sm.1 sg.sm.2 so.sm.1)) fun H1 e1 => ?_
    obtain ⟨u, w', h1, h2, v1, v2⟩ := ev_end (K := K) (ta := tVar 0) (σ := (L2.start ["stretch", "other", "first", "second"] [v, c]).set 2 (some (.int (Mm01.turn g.1 g.2 o.1)))) (H := H1) (ev_var rfl) (hg.ex e1)
    obtain ⟨u', w'', h3, h4, v3, v4⟩ := ev_end (K := K) (ta := tVar 1) (σ := (L2.start ["stretch", "other", "first", "second"] [v, c]).set 2 (some (.int (Mm01.turn g.1 g.2 o.1)))) (H := H1) (ev_var rfl) (ho.ex e1)
    refine q_asg (ev_call (ea_cons v1 (ea_cons v2 (ea_cons v4 ea_nil))) (svBend h1 h2 h4 sg.sm.1 sg.sm.2 so.sm.2)) fun H2 e2 => ?_
    have small := turn_small sg.1 sg.2 so.1
    exact s_ret (ev_op (ev_op (ev_var rfl) (ev_var rfl) (rv_I (.inl (mul_ok (by omega))))) ev_c rv_I0) fun H3 e3 => k H3 ((e1.trans e2).trans e3)
end
abbrev dTwo (P : Program) (w : World) (K : PySem.W.Frag) (mg : Str → Option Value) (base : Heap) : Prop := Dn P w K mg base 2 "ends_on_two_sides" ["stretch", "other"] spTwo
/-! ### stretches_meet -/
abbrev sMeet : Stmt := top 7
def spMeet : Sp := fun vs H Q _ => ∃ (v c : V) (s o : Seg), vs = [v, c] ∧ Sg H v s ∧ Sg H c o ∧ SkS s ∧ SkS o ∧ RetV (.bl (Geo.stMeet s o)) H Q
theorem svMeet {H : Hp} {v c : V} {s o : Seg} (h : Sg H v s) (hc : Sg H c o) (ss : SkS s) (so : SkS o) : SpV spMeet [v, c] H (.bl (Geo.stMeet s o)) :=
  fun H1 e Q k E => ⟨v, c, s, o, rfl, h.ex e, hc.ex e, ss, so, k⟩
section
variable {P : Program} {w : World} {K : PySem.W.Frag} {mg : Str → Option Value} {base : Heap}
theorem scMeet : FnScope ["one", "other"] ["one", "other"] (defScope sMeet) := ⟨rfl, rfl, rfl, by decide +kernel, rfl, by decide +kernel, by decide +kernel⟩
theorem ok_meet {f : Addr} {fd : FuncData} (F : Fun K "stretches_meet" "stretches_meet" sMeet f fd) (DO : dOn P w K mg base) (DT : dTwo P w K mg base) : FnOk P w K mg base CX0 3 f fd ["one", "other"] spMeet := by
  refine F.ok scMeet (fun vs H Q E h => ?_) (fun cdv A outer s H vs Q E hr h => ?_)
  · obtain ⟨v, c, s, o, rfl, _⟩ := h
    rfl
  · obtain ⟨v, c, g, o, rfl, hg, ho, sg, so, k⟩ := h
    refine ⟨_, pss_cons (ps_if (PW.pt (pw_or (pt_val (pe_d DO hr (by decide) rfl (pa_cons (pe_ix ix_tup (pv 0) pe_int (fun _ _ => rfl)) (pa_cons (pv 1) pa_nil))))
        (pw_or1 (pt_val (pe_d DO hr (by decide) rfl (pa_cons (pe_ix ix_tup (pv 0) pe_int (fun _ _ => rfl)) (pa_cons (pv 1) pa_nil))))))) (pss_one (ps_ret pe_bl)) pss_nil)
      (pss_cons (ps_if (PW.pt (pw_or (pt_val (pe_d DO hr (by decide) rfl (pa_cons (pe_ix ix_tup (pv 1) pe_int (fun _ _ => rfl)) (pa_cons (pv 0) pa_nil))))
        (pw_or1 (pt_val (pe_d DO hr (by decide) rfl (pa_cons (pe_ix ix_tup (pv 1) pe_int (fun _ _ => rfl)) (pa_cons (pv 0) pa_nil))))))) (pss_one (ps_ret pe_bl)) pss_nil)
      (pss_one (ps_ret (pe_and (pe_d DT hr (by decide) rfl (pa_cons (pv 0) (pa_cons (pv 1) pa_nil))) (pe_one (pe_d DT hr (by decide) rfl (pa_cons (pv 1) (pa_cons (pv 0) pa_nil)))))))), ?_⟩
    obtain ⟨u, w', h1, h2, v1, v2⟩ := ev_end (K := K) (ta := tVar 0) (σ := L2.start ["one", "other"] [v, c]) (H := H) (ev_var rfl) hg
    refine q_when (et_or (et_B (ev_call (ea_cons v1 (ea_cons (ev_var rfl) ea_nil)) (svOn h1 ho sg.sm.1 so.sm))) (fun _ => et_B (ev_call (ea_cons v2 (ea_cons (ev_var rfl) ea_nil)) (svOn h2 ho sg.sm.2 so.sm))))
      (fun hb H1 e1 => s_ret ev_c fun H2 e2 => ?_) (fun hb H1 e1 => ?_)
    · have : Geo.stMeet g o = true := by
        unfold Geo.stMeet
        rw [if_pos hb]
      rw [this] at k
      exact k H2 (e1.trans e2)
    obtain ⟨u, w', h3, h4, v3, v4⟩ := ev_end (K := K) (ta := tVar 1) (σ := L2.start ["one", "other"] [v, c]) (H := H1) (ev_var rfl) (ho.ex e1)
    refine q_when (et_or (et_B (ev_call (ea_cons v3 (ea_cons (ev_var rfl) ea_nil)) (svOn h3 (hg.ex e1) so.sm.1 sg.sm))) (fun _ => et_B (ev_call (ea_cons v4 (ea_cons (ev_var rfl) ea_nil)) (svOn h4 (hg.ex e1) so.sm.2 sg.sm))))
      (fun hb2 H2 e2 => s_ret ev_c fun H3 e3 => ?_) (fun hb2 H2 e2 => ?_)
    · have : Geo.stMeet g o = true := by
        unfold Geo.stMeet
        rw [if_neg (by rw [hb]; decide), if_pos hb2]
      rw [this] at k
      exact k H3 ((e1.trans e2).trans e3)
    · have : Geo.stMeet g o = (Geo.twoSides g o && Geo.twoSides o g) := by
        unfold Geo.stMeet
        rw [if_neg (by rw [hb]; decide), if_neg (by rw [hb2]; decide)]
      rw [this] at k
      have e := e1.trans e2
      exact s_ret (ev_andV (ev_call (ea_cons (ev_var rfl) (ea_cons (ev_var rfl) ea_nil)) (svTwo (hg.ex e) (ho.ex e) sg so)) fun _ => ev_call (ea_cons (ev_var rfl) (ea_cons (ev_var rfl) ea_nil)) (svTwo (ho.ex e) (hg.ex e) so sg)) fun H3 e3 => k H3 (e.trans e3)
end
abbrev dMeet (P : Program) (w : World) (K : PySem.W.Frag) (mg : Str → Option Value) (base : Heap) : Prop := Dn P w K mg base 3 "stretches_meet" ["one", "other"] spMeet
/-! ### runs_back -/
abbrev sBack : Stmt := top 8
def spBack : Sp := fun vs H Q _ => ∃ (v c : V) (s o : Seg), vs = [v, c] ∧ Sg H v s ∧ Sg H c o ∧ SkS s ∧ SkS o ∧ RetV (.bl (Geo.runsBack s o)) H Q
theorem svBack {H : Hp} {v c : V} {s o : Seg} (h : Sg H v s) (hc : Sg H c o) (ss : SkS s) (so : SkS o) : SpV spBack [v, c] H (.bl (Geo.runsBack s o)) :=
  fun H1 e Q k E => ⟨v, c, s, o, rfl, h.ex e, hc.ex e, ss, so, k⟩
section
variable {P : Program} {w : World} {K : PySem.W.Frag} {mg : Str → Option Value} {base : Heap}
theorem scBack : FnScope ["before", "stretch"] ["before", "stretch"] (defScope sBack) := ⟨rfl, rfl, rfl, by decide +kernel, rfl, by decide +kernel, by decide +kernel⟩
theorem ok_back {f : Addr} {fd : FuncData} (F : Fun K "runs_back" "runs_back" sBack f fd) (DO : dOn P w K mg base) : FnOk P w K mg base CX0 3 f fd ["before", "stretch"] spBack := by
  refine F.ok scBack (fun vs H Q E h => ?_) (fun cdv A outer s H vs Q E hr h => ?_)
  · obtain ⟨v, c, s, o, rfl, _⟩ := h
    rfl
  · obtain ⟨v, c, g, o, rfl, hg, ho, sg, so, k⟩ := h
    refine ⟨_, pss_one (ps_ret (pe_or (pe_d DO hr (by decide) rfl (pa_cons (pe_ix ix_tup (pv 1) pe_int (fun _ _ => rfl)) (pa_cons (pv 0) pa_nil)))
      (pe_one (pe_d DO hr (by decide) rfl (pa_cons (pe_ix ix_tup (pv 0) pe_int (fun _ _ => rfl)) (pa_cons (pv 1) pa_nil)))))), ?_⟩
    obtain ⟨u, w', h1, h2, v1, v2⟩ := ev_end (K := K) (ta := tVar 0) (σ := L2.start ["before", "stretch"] [v, c]) (H := H) (ev_var rfl) hg
    obtain ⟨u, w', h3, h4, v3, v4⟩ := ev_end (K := K) (ta := tVar 1) (σ := L2.start ["before", "stretch"] [v, c]) (H := H) (ev_var rfl) ho
    exact s_ret (ev_orV (ev_call (ea_cons v4 (ea_cons (ev_var rfl) ea_nil)) (svOn h4 hg so.sm.2 sg.sm)) fun _ => ev_call (ea_cons v1 (ea_cons (ev_var rfl) ea_nil)) (svOn h1 ho sg.sm.1 so.sm)) k
end
abbrev dBack (P : Program) (w : World) (K : PySem.W.Frag) (mg : Str → Option Value) (base : Heap) : Prop := Dn P w K mg base 3 "runs_back" ["before", "stretch"] spBack
end PL
namespace PL
open PySem PySem.Spec PyProof.Rows L2 Evl
open Geo (Seg pz PLine)
/-! ### more words of evaluation: a value of which something is known -/
def EvP (te : TE) (σ : L2.St) (H : Hp) (S : V → Hp → Prop) : Prop := ∀ H1, Ex H H1 → ∀ Q : VK, (∀ v H2, Ex H1 H2 → S v H2 → Q v H2) → te σ H1 Q
/-- a new list whose items are told by R -/
def EvN {α : Type} (te : TE) (σ : L2.St) (H : Hp) (R : Hp → V → α → Prop) (xs : List α) : Prop :=
  ∀ H1, Ex H H1 → ∀ Q : VK, (∀ p vs H2, H1 p = none → Ex H1 H2 → H2 p = some (.lst vs) → Each (R H2) vs xs → Q (.ref p) H2) → te σ H1 Q
def ExT (H H' : Hp) : Prop := ∀ a xs, H a = some (.tup xs) → H' a = some (.tup xs)
theorem Ex.t {H H' : Hp} (e : Ex H H') : ExT H H' := fun a xs h => e a _ h
theorem ExT.upd {H : Hp} {D : Addr} {acc : List V} {o : HO} (h : H D = some (.lst acc)) : ExT H (upd H D o) := fun a xs e => by
  rw [upd_ne (ne_of e h (by intro z; cases z))]
  exact e
theorem Pl.exT {H H' : Hp} {v : V} {p : Pt} (s : ExT H H') (h : Pl H v p) : Pl H' v p := by
  obtain ⟨a, e, h⟩ := h
  exact ⟨a, e, s _ _ h⟩
theorem Sg.exT {H H' : Hp} {v : V} {p : Seg} (s : ExT H H') (h : Sg H v p) : Sg H' v p := by
  obtain ⟨a, u, w, e, h, h1, h2⟩ := h
  exact ⟨a, u, w, e, s _ _ h, h1.exT s, h2.exT s⟩
theorem take_more {α : Type} {l : List α} {i : Nat} {x : α} (h : l[i]? = some x) : l.take (i + 1) = l.take i ++ [x] := by
  rw [List.take_add_one, h]
  rfl
section
variable {α : Type} {K : PySem.W.Frag} {σ : L2.St} {H : Hp} {ta : TA} {te tl : TE} {R : Hp → V → α → Prop} {xs : List α}
theorem ev_fld {p C dx : Addr} {fs : List (Str × V)} {f : Str} {v : V} (h : Ev tl σ H (.ref p)) (hp : H p = some (.ins C dx fs)) (cl : Cls K C) (nF : NoAttr K C f) (lk : fs.lookup f = some v) : Ev (tFld K tl f) σ H v := fun H1 e Q q =>
  h H1 e _ fun H2 e2 => ⟨p, C, dx, fs, v, rfl, (e.trans e2) _ _ hp, cl, nF, lk, q H2 e2⟩
theorem cn_turn (mono : ∀ (H H' : Hp) (v : V) (x : α), ExT H H' → R H v x → R H' v x) {H1 H' : Hp} {D : Addr} {i : Nat} {x : α} {σ2 : L2.St} (hD : H1 D = none) (hl : i < 100000) (hx : xs[i]? = some x)
    (p : Ex H1 H' ∧ ∃ acc, H' D = some (.lst acc) ∧ Each (R H') acc (xs.take i)) (he : EvP te σ2 H1 (fun v H2 => R H2 v x)) :
    tYes σ2 H' fun b H3 => if b = true then te σ2 H3 fun y H4 => ∃ acc, H4 D = some (.lst acc) ∧ acc.length < sizeLine ∧ (Ex H1 (upd H4 D (.lst (acc ++ [y]))) ∧ ∃ acc', (upd H4 D (.lst (acc ++ [y]))) D = some (.lst acc') ∧ Each (R (upd H4 D (.lst (acc ++ [y])))) acc' (xs.take (i + 1)))
      else (Ex H1 H3 ∧ ∃ acc, H3 D = some (.lst acc) ∧ Each (R H3) acc (xs.take (i + 1))) := by
  obtain ⟨e1, acc, hacc, hE⟩ := p
  show te σ2 H' _
  refine he H' e1 _ fun v H4 e4 r => ?_
  have h4 := e4 _ _ hacc
  have hlen := hE.length
  rw [List.length_take] at hlen
  refine ⟨acc, h4, sz_lt (by omega), Ex.mut (e1.trans e4) hD, _, upd_same, ?_⟩
  rw [take_more hx]
  exact Each.snoc (mono _ _ _ _ (ExT.upd h4) r) (hE.mono fun v x q => mono _ _ _ _ (ExT.upd h4) (mono _ _ _ _ (Ex.t e4) q))
/-- [e for i in range(a, b)] -/
theorem en_lcR2 (mono : ∀ (H H' : Hp) (v : V) (x : α), ExT H H' → R H v x → R H' v x) {j : Nat} {vs : List Nat} {lo n : Int} (h : EvA ta σ H [.int lo, .int n]) (hn : 0 ≤ lo ∧ lo ≤ 100000 ∧ -100000 ≤ n ∧ n ≤ 100000) (hl : (n - lo).toNat = xs.length)
    (hw : ∀ x, wipe ((wipe σ vs).set j (some x)) vs = wipe σ vs)
    (he : ∀ (i : Nat) (x : α) H1, Ex H H1 → xs[i]? = some x → EvP te ((wipe σ vs).set j (some (.int (lo + i)))) H1 (fun v H2 => R H2 v x)) : EvN (tLc (iRng2 ta) (gName j) tYes te vs) σ H R xs := fun H0 e Q q =>
  h H0 e _ fun H1 e1 => ⟨lo, n, rfl, ⟨by omega, by omega, by omega, by omega⟩, fun D hD =>
    lc_range (lo := lo) (n := (n - lo).toNat) (fun i H' => Ex H1 H' ∧ ∃ acc, H' D = some (.lst acc) ∧ Each (R H') acc (xs.take i)) ⟨Ex.new hD, [], upd_same, trivial⟩
      (fun i H' hi p => ⟨hw _, by
        have hx : xs[i]? = some xs[i] := List.getElem?_eq_getElem (by omega)
        exact cn_turn mono hD (by omega) hx p (he i _ H1 (e.trans e1) hx)⟩)
      (fun H' p => by
        obtain ⟨e2, acc, h1, h2⟩ := p
        rw [hl, List.take_length] at h2
        exact q D acc H' (fresh_back e1 hD) (e1.trans e2) h1 h2)⟩
theorem q_asgN {i : Nat} {tz : TS} {D : Ends} (h : EvN te σ H R xs) (k : ∀ p vs H1, H p = none → Ex H H1 → H1 p = some (.lst vs) → Each (R H1) vs xs → tz D (σ.set i (some (.ref p))) H1) : tSeq (tAsg te (gName i)) tz D σ H := h H (Ex.refl H) _ fun p vs H1 hp e h1 h2 => k p vs H1 hp e h1 h2
theorem ep_tup2 {ta tb : TE} {u w : V} (h1 : Ev ta σ H u) (h2 : Ev tb σ H w) : EvP (tTup (tCons ta (tCons tb tNil))) σ H (fun v H2 => ∃ a, v = .ref a ∧ H2 a = some (.tup [u, w])) := fun H1 e Q q =>
  eu_tup (ea_cons h1 (ea_cons h2 ea_nil)) (by show 2 ≤ 100000; decide) H1 e Q fun p H2 _ e2 hp => q _ H2 e2 ⟨p, rfl, hp⟩
theorem EvP.imp {S S' : V → Hp → Prop} (h : EvP te σ H S) (f : ∀ v H2, Ex H H2 → S v H2 → S' v H2) : EvP te σ H S' := fun H1 e Q q => h H1 e Q fun v H2 e2 s => q v H2 e2 (f v H2 (e.trans e2) s)
end
/-! ### lines -/
def lF (r : Bool) (l : Addr) : List (Str × V) := [("ring", .bl r), ("points", .ref l)]
theorem lF_ring (r : Bool) (l : Addr) : (lF r l).lookup ("ring" : Str) = some (.bl r) := by
  have e : (("ring" : Str) == "ring") = true := beq_self_eq_true _
  simp only [lF, List.lookup, e]
theorem lF_points (r : Bool) (l : Addr) : (lF r l).lookup ("points" : Str) = some (.ref l) := by
  have e : (("points" : Str) == "ring") = false := by decide +kernel
  have e' : (("points" : Str) == "points") = true := beq_self_eq_true _
  simp only [lF, List.lookup, e, e']
def LineAt (C : Addr) (H : Hp) (v : V) (q : PLine) : Prop := ∃ a dx l, v = .ref a ∧ H a = some (.ins C dx (lF q.1 l)) ∧ Ls Pl H (.ref l) q.2
theorem LineAt.ex {C : Addr} {H H' : Hp} {v : V} {q : PLine} (s : Ex H H') (h : LineAt C H v q) : LineAt C H' v q := by
  obtain ⟨a, dx, l, e, h1, h2⟩ := h
  exact ⟨a, dx, l, e, s _ _ h1, exP s h2⟩
/-- what the top has written of the class Line -/
structure TL (K : PySem.W.Frag) (mg : Str → Option Value) (C : Addr) : Prop where
  cl : Cls K C
  nR : NoAttr K C "ring"
  nP : NoAttr K C "points"
  gC : mg "Line" = some (.ref C)
/-- a line of the map: its points are places of the map -/
def LineOk (q : PLine) : Prop := (2 ≤ q.2.length ∧ q.2.length ≤ 12) ∧ ∀ p ∈ q.2, Sk p
/-- a line as shown -/
def LineOk1 (q : PLine) : Prop := (1 ≤ q.2.length ∧ q.2.length ≤ 12) ∧ ∀ p ∈ q.2, Sk p
theorem LineOk.one {q : PLine} (h : LineOk q) : LineOk1 q := ⟨⟨by have := h.1; omega, h.1.2⟩, h.2⟩
/-! ### stretches_of -/
abbrev sSides : Stmt := top 9
def RetN {α : Type} (R : Hp → V → α → Prop) (xs : List α) (H : Hp) (Q : VK) : Prop := ∀ p vs H2, H p = none → Ex H H2 → H2 p = some (.lst vs) → Each (R H2) vs xs → Q (.ref p) H2
def SpN {α : Type} (sp : Sp) (vs : List V) (H : Hp) (R : Hp → V → α → Prop) (xs : List α) : Prop := ∀ H1, Ex H H1 → ∀ Q : VK, RetN R xs H1 Q → ∀ E : XK, sp vs H1 Q E
theorem en_call {α : Type} {R : Hp → V → α → Prop} {xs : List α} {σ : L2.St} {H : Hp} {sp : Sp} {dvs vs : List V} {E : XK} {ta : TA} (h : EvA ta σ H vs) (hs : SpN sp (vs ++ dvs) H R xs) : EvN (tCall sp dvs E ta) σ H R xs := fun H1 e Q q =>
  h H1 e _ fun H2 e2 => hs H2 (e.trans e2) Q (fun p us H3 hp e3 h3 h4 => q p us H3 (fresh_back e2 hp) (e2.trans e3) h3 h4) E
def spSides (C : Addr) : Sp := fun vs H Q _ => ∃ (v : V) (q : PLine), vs = [v] ∧ LineAt C H v q ∧ LineOk1 q ∧ RetN Sg (Geo.sidesOf q.1 q.2) H Q
theorem snSides1 {C : Addr} {H : Hp} {v : V} {q : PLine} (h : LineAt C H v q) (ok : LineOk1 q) : SpN (spSides C) [v] H Sg (Geo.sidesOf q.1 q.2) := fun H1 e Q k E => ⟨v, q, rfl, h.ex e, ok, k⟩
theorem snSides {C : Addr} {H : Hp} {v : V} {q : PLine} (h : LineAt C H v q) (ok : LineOk q) : SpN (spSides C) [v] H Sg (Geo.sidesOf q.1 q.2) := snSides1 h ok.one
section
variable {P : Program} {w : World} {K : PySem.W.Frag} {mg : Str → Option Value} {base : Heap} {C : Addr}
abbrev nSides : List Str := ["line", "points", "found", "i"]
theorem scSides : FnScope nSides ["line"] (defScope sSides) := ⟨rfl, rfl, rfl, by decide +kernel, rfl, by decide +kernel, by decide +kernel⟩
theorem ok_sides {f : Addr} {fd : FuncData} (F : Fun K "stretches_of" "stretches_of" sSides f fd) (B : Bi mg) (T : TL K mg C) : FnOk P w K mg base CX0 1 f fd ["line"] (spSides C) := by
  refine F.ok scSides (fun vs H Q E h => ?_) (fun cdv A outer s H vs Q E hr h => ?_)
  · obtain ⟨v, q, rfl, _⟩ := h
    rfl
  · obtain ⟨v, q, rfl, ⟨a, dx, l, rfl, ha, pts⟩, ok, k⟩ := h
    obtain ⟨_, vs, e, hl, he⟩ := id pts
    cases e
    have hlen := he.length
    have ok1 := ok.1
    refine ⟨_, pss_cons (ps_set (i := 1) scSides.nd rfl (Or.inr rfl) (pe_fld (pv 0) rfl))
      (pss_cons (ps_setLc (i := 2) (own := [("i", 3)]) (g := gName 3) (tt := tYes) (te := tTup (tCons (tOp (rIxL K) (tVar 1) (tOp (rI0 fun i j => .int (i - j)) (tVar 3) (tC (.int 1)))) (tCons (tOp (rIxL K) (tVar 1) (tVar 3)) tNil))) rfl scSides.nd rfl rfl (sw_true rfl rfl rfl (by decide +kernel))
        (pi_range2 rfl B.range (pa_cons pe_int (pa_cons (pe_callB call_len_seq (by rfl) B.len PySem.boot_len (pa_cons (pv 1) pa_nil)) pa_nil))) (blkOk_by (N := nSides) (sc := defScope sSides) (by decide +kernel))
        (fun _ _ _ _ _ => pg_name (i := 3) scSides.nd rfl (Or.inl rfl)) (fun _ _ _ _ _ => pts_nil)
        (fun _ _ _ _ _ => pe_tup (pa_cons (pe_ix ix_list (pv 1) (pe_op op_sub (pv 3) pe_int) (fun _ _ => rfl)) (pa_cons (pe_ix ix_list (pv 1) (pv 3) (fun _ _ => rfl)) pa_nil))))
      (pss_cons (ps_if (pt_val (pe_fld (pv 0) rfl)) (pss_one (ps_expr (pe_bm PySem.F.plainAttrs_list PySem.F.slot_list_append PySem.F.type_list_append mt_append (pv 2) (pa_cons
          (pe_tup (pa_cons (pe_ix ix_list (pv 1) (pe_un un_neg pe_int) (fun _ _ => rfl)) (pa_cons (pe_ix ix_list (pv 1) pe_int (fun _ _ => rfl)) pa_nil))) pa_nil)))) pss_nil)
      (pss_one (ps_ret (pv 2))))), ?_⟩
    refine q_asg (ev_fld (ev_var rfl) ha T.cl T.nP (lF_points _ _)) fun H1 e1 => ?_
    have hl1 := e1 _ _ hl
    have at_ : ∀ (j : Nat), j < q.2.length → ∃ u, vs[j]? = some u ∧ Pl H u (q.2.getD j pz) := fun j hj => by
      obtain ⟨u, h1, h2⟩ := he.get' (List.getElem?_eq_getElem hj)
      refine ⟨u, h1, ?_⟩
      rw [List.getD_eq_getElem?_getD, List.getElem?_eq_getElem hj]
      exact h2
    have zlen : (q.2.zip (q.2.drop 1)).length = q.2.length - 1 := by rw [List.length_zip, List.length_drop]; omega
    refine q_asgN (xs := q.2.zip (q.2.drop 1)) (R := Sg) (en_lcR2 (R := Sg) (fun _ _ _ _ => Sg.exT) (lo := 1) (n := (q.2.length : Int)) (ea_cons ev_c (ea_cons (ev_is (ev_len (K := K) (ev_var rfl) (sq_of hl1)) (by rw [hlen])) ea_nil)) ⟨by decide, by decide, by omega, by omega⟩ (by rw [zlen]; omega) (fun x => rfl)
      (fun i x H2 e2 hx => ?_)) fun D us H2 hD e2 d2 hE => ?_
    · have hi : i + 1 < q.2.length := by
        have := (List.getElem?_eq_some_iff.mp hx).1
        omega
      obtain ⟨u, u1, u2⟩ := at_ i (by omega)
      obtain ⟨w', w1, w2⟩ := at_ (i + 1) hi
      have xe : x = (q.2.getD i pz, q.2.getD (i + 1) pz) := by
        have := Geo.sidesOf_at (ring := false) hi
        unfold Geo.sidesOf at this
        simp only [Bool.false_eq_true, if_false, List.append_nil] at this
        rw [this] at hx
        exact (Option.some.inj hx).symm
      refine EvP.imp (ep_tup2 (u := u) (w := w') (ev_op (ev_var rfl) (ev_op (ev_var rfl) ev_c rv_I0) (rv_ixL (sq_of (e2 _ _ hl1)) ?_)) (ev_op (ev_var rfl) (ev_var rfl) (rv_ixL (sq_of (e2 _ _ hl1)) ?_))) (fun v H3 e3 ⟨b, eb, hb⟩ => ⟨b, u, w', eb, hb, ?_, ?_⟩)
      · have : (1 : Int) + (i : Int) - 1 = (i : Int) := by omega
        rw [this]
        exact atI_nat u1
      · have : (1 : Int) + (i : Int) = ((i + 1 : Nat) : Int) := by omega
        rw [this]
        exact atI_nat w1
      · rw [xe]
        exact ((u2.ex e1).ex e2).ex e3
      · rw [xe]
        exact ((w2.ex e1).ex e2).ex e3
    have e12 := e1.trans e2
    have hl2 := e2 _ _ hl1
    refine q_when (et_B (ev_fld (ev_var rfl) (e12 _ _ ha) T.cl T.nR (lF_ring _ _))) (fun hb H3 e3 => ?_) (fun hb H3 e3 => ?_)
    · obtain ⟨u, u1, u2⟩ := at_ (q.2.length - 1) (by omega)
      obtain ⟨w', w1, w2⟩ := at_ 0 (by omega)
      have hl3 := e3 _ _ hl2
      have d3 := e3 _ _ d2
      have lenus : us.length = q.2.length - 1 := by rw [hE.length, zlen]
      refine s_appU (D := { nx := _, rt := Q }) (K := K) (l := D) (xs := us) (ys := [u, w']) d3 (ev_var rfl) (eu_tup (ea_cons (ev_op (ev_var rfl) (ev_un ev_c ru_neg) (rv_ixL (sq_of hl3) ?_)) (ea_cons (ev_op (ev_var rfl) ev_c (rv_ixL (sq_of hl3) (atI_nat (j := 0) w1))) ea_nil)) (by show 2 ≤ 100000; decide)) (by omega) fun p H4 hp e4 h4 => ?_
      · have : vs = vs.dropLast ++ [u] := by
          have ne : vs ≠ [] := by intro z; rw [z] at hlen; simp at hlen; omega
          have gl : vs.getLast ne = u := by
            rw [List.getLast_eq_getElem]
            have := List.getElem?_eq_some_iff.mp u1
            obtain ⟨h, e⟩ := this
            rw [← e]
            congr 1
            omega
          rw [← gl]
          exact (List.dropLast_concat_getLast ne).symm
        rw [this]
        exact atI_last _ _
      · have d4 := e4 _ _ d3
        have ext := ExT.upd (o := .lst (us ++ [.ref p])) d4
        refine s_ret (ev_var rfl) fun H5 e5 => ?_
        have pn : p ≠ D := ne_of h4 d4 (by intro z; cases z)
        refine k D (us ++ [.ref p]) H5 (fresh_back e1 hD) ((Ex.mut ((e1.trans e2).trans (e3.trans e4)) (fresh_back e1 hD)).trans e5) (e5 _ _ upd_same) ?_
        unfold Geo.sidesOf
        rw [if_pos hb]
        refine Each.snoc ?_ (hE.mono fun v x r => ((r.ex (e3.trans e4)).exT ext).ex e5)
        have e04 := (e1.trans e2).trans (e3.trans e4)
        refine ⟨p, u, w', rfl, e5 _ _ (by rw [upd_ne pn]; exact h4), (((u2.ex e04).exT ext).ex e5), (((w2.ex e04).exT ext).ex e5)⟩
    · refine s_ret (ev_var rfl) fun H5 e5 => ?_
      refine k D us H5 (fresh_back e1 hD) ((e12.trans e3).trans e5) (e5 _ _ (e3 _ _ d2)) ?_
      unfold Geo.sidesOf
      rw [hb]
      simp only [Bool.false_eq_true, if_false, List.append_nil]
      exact hE.mono fun v x r => r.ex (e3.trans e5)
end
end PL
namespace PL
open PySem PySem.Spec PyProof.Rows L2 Evl
open Geo (Seg pz PLine)
abbrev dSides (C : Addr) (P : Program) (w : World) (K : PySem.W.Frag) (mg : Str → Option Value) (base : Heap) : Prop := Dn P w K mg base 1 "stretches_of" ["line"] (spSides C)
/-! ### len(set(..)) of tuples -/
def rLenSetT (P : Program) (w : World) : List V → Hp → VK → Prop := fun xs H Q => ∃ (a : Addr) (L : List (Addr × List Int)), xs = [V.ref a] ∧ H a = some (SetTO P w a L) ∧ ((L.map (·.2)).Nodup → Q (.int L.length) H)
theorem cr_lenSetT {X : Cx} : CallR X (.builtin "len") (rLenSetT X.prog X.w) := by
  intro pins s σ H xs us Q I r h
  obtain ⟨a, L, rfl, ha, q⟩ := h
  rw [Vals.ref1 r]
  obtain ⟨⟨es, ep, t, ⟨o, ho, hex, hd⟩, h2, h3, h4, h5, h6, h7, h8⟩, _⟩ := I.hok a _ ha
  have hsz : es.size = L.length := by
    have h := congrArg List.length h2
    unfold rowsOf at h
    rw [Array.length_toList, List.length_map] at h
    exact h
  have hf : t.fits es.size = true := by
    have h1 := h3.sz
    rw [List.length_map] at h1
    unfold SetTable.fits SetTable.fill
    rw [h3.dm, Bool.and_eq_true, beq_iff_eq, decide_eq_true_eq]
    show t.place.size = es.size ∧ t.place.size + 0 ≤ t.mask
    omega
  exact call_len_set ho hex hd hf (by rw [hsz]; omega) ⟨.int L.length, H, I.tok _, ⟨_, by rw [hsz]⟩, q h4⟩
theorem nodup_len {α : Type} [BEq α] [LawfulBEq α] : ∀ (A B : List α), A.Nodup → (∀ x ∈ A, x ∈ B) → A.length ≤ B.length
  | [], B, _, _ => Nat.zero_le _
  | a :: A, B, hn, h => by
    rw [List.nodup_cons] at hn
    have ha := h a (by simp)
    have ih := nodup_len A (B.erase a) hn.2 fun x hx => by
      have : x ≠ a := fun e => hn.1 (e ▸ hx)
      exact (List.mem_erase_of_ne this).mpr (h x (List.mem_cons_of_mem _ hx))
    rw [List.length_erase_of_mem ha] at ih
    have : 0 < B.length := List.length_pos_of_mem ha
    simp only [List.length_cons]
    omega
theorem set_len_iff {α : Type} [BEq α] [LawfulBEq α] {A M : List α} (hn : A.Nodup) (h1 : ∀ x ∈ A, x ∈ M) (h2 : ∀ x ∈ M, x ∈ A) : (A.length < M.length) ↔ ¬ M.Nodup := by
  constructor
  · intro h hm
    have := nodup_len M A hm h2
    omega
  · intro h
    have a1 := nodup_len A M.eraseDups hn fun x hx => List.mem_eraseDups.mpr (h1 x hx)
    have a2 := Geo.eraseDups_le _ M (Nat.le_refl _)
    have a3 := Geo.eraseDups_iff _ M (Nat.le_refl _)
    have : M.eraseDups.length ≠ M.length := fun e => h (a3.mp e)
    omega
def row2 (p : Pt) : List Int := [p.1, p.2]
theorem row2_nodup {ps : List Pt} : (ps.map row2).Nodup ↔ ps.Nodup := by
  constructor
  · intro h
    exact List.Pairwise.of_map row2 (fun _ _ hne e => hne (congrArg row2 e)) h
  · intro h
    refine List.Pairwise.map row2 (fun a b hne e => hne ?_) h
    unfold row2 at e
    have e1 := (List.cons.inj e).1
    have e2 := (List.cons.inj (List.cons.inj e).2).1
    exact Prod.ext e1 e2
/-- the places' addresses beside their numbers -/
theorem each_keys {H : Hp} : ∀ {vs : List V} {ps : List Pt}, Each (Pl H) vs ps → ∃ ks : List (Addr × List Int), vs = ks.map (fun p => V.ref p.1) ∧ ks.map (·.2) = ps.map row2 ∧ ∀ p ∈ ks, ∃ q : Pt, p.2 = row2 q ∧ H p.1 = some (.tup [.int q.1, .int q.2])
  | [], [], _ => ⟨[], rfl, rfl, fun p h => by cases h⟩
  | v :: vs, p :: ps, h => by
    obtain ⟨⟨a, e, h1⟩, h2⟩ := h
    obtain ⟨ks, k1, k2, k3⟩ := each_keys h2
    refine ⟨(a, row2 p) :: ks, by rw [e, k1]; rfl, by rw [List.map_cons, List.map_cons, k2], fun q hq => ?_⟩
    cases hq with
    | head => exact ⟨p, rfl, h1⟩
    | tail _ hq => exact k3 q hq
  | [], _ :: _, h => h.elim
  | _ :: _, [], h => h.elim
section
variable {K : PySem.W.Frag} {P : Program} {w : World} {σ : L2.St} {H : Hp} {tl : TE}
theorem ev_lenSetT {v : V} {ps : List Pt} (h : Ev tl σ H v) (hp : Ls Pl H v ps) (hl : ps.length ≤ 40) : ∀ H1, Ex H H1 → ∀ Q : VK, (∀ (n : Nat) H2, Ex H1 H2 → (n < ps.length ↔ ¬ ps.Nodup) → Q (.int n) H2) →
    tCB (rLenSetT P w) (tCons (tCB (rSetOfT K P w) (tCons tl tNil)) tNil) σ H1 Q := fun H1 e Q q => by
  refine h H1 e _ fun H2 e2 => ?_
  obtain ⟨l, vs, rfl, hl2, he⟩ := exP (e.trans e2) hp
  obtain ⟨ks, rfl, k2, k3⟩ := each_keys he
  have hlen : ks.length = ps.length := by
    have := congrArg List.length k2
    simpa using this
  refine ⟨l, ks, rfl, sq_of hl2, fun p hp => ?_, by omega, fun a L ha hs hc => ⟨a, L, rfl, upd_same, fun nd => q L.length _ (e2.trans (Ex.new ha)) ?_⟩⟩
  · obtain ⟨q, e1, e2⟩ := k3 p hp
    rw [e1]
    exact st_of e2
  · rw [← row2_nodup, ← List.length_map (f := row2) (as := ps), ← List.length_map (f := fun p : Addr × List Int => p.2) (as := L)]
    refine set_len_iff nd (fun x hx => ?_) (fun x hx => ?_)
    · rw [List.mem_map] at hx
      obtain ⟨p, hp, rfl⟩ := hx
      rw [← k2]
      exact List.mem_map.mpr ⟨p, hs p hp, rfl⟩
    · rw [← k2, List.mem_map] at hx
      obtain ⟨p, hp, rfl⟩ := hx
      exact hc p hp
end
section
variable {α : Type} {K : PySem.W.Frag} {σ : L2.St} {H : Hp} {tl : TE} {R : Hp → V → α → Prop} {xs : List α}
/-- for x in a new list -/
theorem q_forN {j : Nat} {tz tu : TS} {D : Ends} (mono : ∀ (H H' : Hp) (v : V) (x : α), Ex H H' → R H v x → R H' v x) (h : EvN tl σ H R xs) (Pv : Hp → Nat → L2.St → Hp → Prop) (h0 : ∀ H1, Ex H H1 → Pv H1 0 σ H1) (hx : ∀ H1 i σ' H', Pv H1 i σ' H' → Ex H1 H')
    (hs : ∀ H1, Ex H H1 → ∀ (i : Nat) (x : α) (v : V) σ' H', xs[i]? = some x → R H' v x → Pv H1 i σ' H' → tu { D with nx := Pv H1 (i + 1), ct := Pv H1 (i + 1), bk := tz D } (σ'.set j (some v)) H')
    (hd : ∀ H1, Ex H H1 → ∀ σ' H', Pv H1 xs.length σ' H' → tz D σ' H') : tSeq (tFor (iList K tl) (gName j) tu) tz D σ H :=
  h H (Ex.refl H) _ fun p vs H1 hp e h1 h2 => ⟨p, rfl, ⟨vs, sq_of h1⟩, for_list (Pv H1) (h0 H1 e) (fun i σ' H' _ q => sq_of ((hx _ _ _ _ q) _ _ h1)) (fun i v σ' H' hi q => by
    obtain ⟨x, hx1, hx2⟩ := h2.get hi
    exact hs H1 e i x v σ' H' hx1 (mono _ _ _ _ (hx _ _ _ _ q) hx2) q) (fun σ' H' q => by
    rw [h2.length] at q
    exact hd H1 e σ' H' q)⟩
theorem s_forN {j : Nat} {tu : TS} {D : Ends} (mono : ∀ (H H' : Hp) (v : V) (x : α), Ex H H' → R H v x → R H' v x) (h : EvN tl σ H R xs) (Pv : Hp → Nat → L2.St → Hp → Prop) (h0 : ∀ H1, Ex H H1 → Pv H1 0 σ H1) (hx : ∀ H1 i σ' H', Pv H1 i σ' H' → Ex H1 H')
    (hs : ∀ H1, Ex H H1 → ∀ (i : Nat) (x : α) (v : V) σ' H', xs[i]? = some x → R H' v x → Pv H1 i σ' H' → tu { D with nx := Pv H1 (i + 1), ct := Pv H1 (i + 1), bk := D.nx } (σ'.set j (some v)) H')
    (hd : ∀ H1, Ex H H1 → ∀ σ' H', Pv H1 xs.length σ' H' → D.nx σ' H') : tFor (iList K tl) (gName j) tu D σ H :=
  h H (Ex.refl H) _ fun p vs H1 hp e h1 h2 => ⟨p, rfl, ⟨vs, sq_of h1⟩, for_list (Pv H1) (h0 H1 e) (fun i σ' H' _ q => sq_of ((hx _ _ _ _ q) _ _ h1)) (fun i v σ' H' hi q => by
    obtain ⟨x, hx1, hx2⟩ := h2.get hi
    exact hs H1 e i x v σ' H' hx1 (mono _ _ _ _ (hx _ _ _ _ q) hx2) q) (fun σ' H' q => by
    rw [h2.length] at q
    exact hd H1 e σ' H' q)⟩
end
/-! ### stretches_clash -/
abbrev sClash : Stmt := top 10
def spClash (C : Addr) : Sp := fun vs H Q _ => ∃ (v c : V) (q : PLine) (ss : List Seg) (i j : Nat), vs = [v, c, .int (i : Int), .int (j : Int)] ∧ LineAt C H v q ∧ Ls Sg H c ss ∧ i < j ∧ j < ss.length ∧ (∀ s ∈ ss, SkS s) ∧ RetV (.bl (Geo.clash q.1 ss i j)) H Q
theorem svClash {C : Addr} {H : Hp} {v c : V} {q : PLine} {ss : List Seg} {i j : Nat} (h : LineAt C H v q) (hc : Ls Sg H c ss) (hij : i < j) (hj : j < ss.length) (sk : ∀ s ∈ ss, SkS s) : SpV (spClash C) [v, c, .int (i : Int), .int (j : Int)] H (.bl (Geo.clash q.1 ss i j)) :=
  fun H1 e Q k E => ⟨v, c, q, ss, i, j, rfl, h.ex e, exS e hc, hij, hj, sk, k⟩
section
variable {P : Program} {w : World} {K : PySem.W.Frag} {mg : Str → Option Value} {base : Heap} {C : Addr}
theorem ls_at {H : Hp} {a : Addr} {vs : List V} {ss : List Seg} (he : Each (Sg H) vs ss) {i : Nat} (hi : i < ss.length) : ∃ u, vs[i]? = some u ∧ Sg H u (ss.getD i (pz, pz)) ∧ ss.getD i (pz, pz) ∈ ss := by
  obtain ⟨u, h1, h2⟩ := he.get' (List.getElem?_eq_getElem hi)
  have e : ss.getD i (pz, pz) = ss[i] := by
    rw [List.getD_eq_getElem?_getD, List.getElem?_eq_getElem hi]
    rfl
  refine ⟨u, h1, ?_, ?_⟩
  · rw [e]; exact h2
  · rw [e]; exact List.getElem_mem hi
theorem scClash : FnScope ["line", "stretches", "i", "j"] ["line", "stretches", "i", "j"] (defScope sClash) := ⟨rfl, rfl, rfl, by decide +kernel, rfl, by decide +kernel, by decide +kernel⟩
theorem ok_clash {f : Addr} {fd : FuncData} (F : Fun K "stretches_clash" "stretches_clash" sClash f fd) (B : Bi mg) (T : TL K mg C) (DB : dBack P w K mg base) (DM : dMeet P w K mg base) : FnOk P w K mg base CX0 4 f fd ["line", "stretches", "i", "j"] (spClash C) := by
  refine F.ok scClash (fun vs H Q E h => ?_) (fun cdv A outer s H vs Q E hr h => ?_)
  · obtain ⟨v, c, q, ss, i, j, rfl, _⟩ := h
    rfl
  · obtain ⟨v, c, q, ss, i, j, rfl, hv, hc, hij, hj, sk, k⟩ := h
    obtain ⟨l, vs, rfl, hl, he⟩ := hc
    obtain ⟨a, dx, l', rfl, ha, _⟩ := id hv
    have hlen := he.length
    refine ⟨_, pss_cons (ps_if (pt_cmpR op_eq (pv 3) (pe_op op_add (pv 2) pe_int) (nomark _)) (pss_one (ps_ret (pe_d DB hr (by decide) rfl (pa_cons (pe_ix ix_list (pv 1) (pv 2) (fun _ _ => rfl)) (pa_cons (pe_ix ix_list (pv 1) (pv 3) (fun _ _ => rfl)) pa_nil))))) pss_nil)
      (pss_cons (ps_if (PW.pt (pw_and (pt_val (pe_fld (pv 0) rfl)) (pw_and (pt_cmpR op_eq (pv 2) pe_int (nomark _)) (pw_and1 (pt_cmpR op_eq (pv 3) (pe_op op_sub (pe_callB call_len_seq (by rfl) B.len PySem.boot_len (pa_cons (pv 1) pa_nil)) pe_int) (nomark _))))))
        (pss_one (ps_ret (pe_d DB hr (by decide) rfl (pa_cons (pe_ix ix_list (pv 1) (pv 3) (fun _ _ => rfl)) (pa_cons (pe_ix ix_list (pv 1) (pv 2) (fun _ _ => rfl)) pa_nil))))) pss_nil)
      (pss_one (ps_ret (pe_d DM hr (by decide) rfl (pa_cons (pe_ix ix_list (pv 1) (pv 2) (fun _ _ => rfl)) (pa_cons (pe_ix ix_list (pv 1) (pv 3) (fun _ _ => rfl)) pa_nil)))))), ?_⟩
    obtain ⟨u, u1, u2, u3⟩ := ls_at (a := l) he (i := i) (by omega)
    obtain ⟨w', w1, w2, w3⟩ := ls_at (a := l) he hj
    refine q_when (et_is (et_test (ev_op (ev_var rfl) (ev_op (ev_var rfl) ev_c rv_I0) (rv_eq rfl))) (decV _ _)) (fun hb H1 e1 => ?_) (fun hb H1 e1 => ?_)
    · have hji : j = i + 1 := by
        have := of_decide_eq_true hb
        omega
      have : Geo.clash q.1 ss i j = Geo.runsBack (ss.getD i (pz, pz)) (ss.getD j (pz, pz)) := by
        unfold Geo.clash
        rw [if_pos hji]
      rw [this] at k
      exact s_ret (ev_call (ea_cons (ev_op (ev_var rfl) (ev_var rfl) (rv_ixL (sq_of (e1 _ _ hl)) (atI_nat u1))) (ea_cons (ev_op (ev_var rfl) (ev_var rfl) (rv_ixL (sq_of (e1 _ _ hl)) (atI_nat w1))) ea_nil)) (svBack (u2.ex e1) (w2.ex e1) (sk _ u3) (sk _ w3))) fun H2 e2 => k H2 (e1.trans e2)
    have hji : ¬ j = i + 1 := fun z => by
      have := of_decide_eq_false hb
      omega
    refine q_when (et_and (et_B (ev_fld (ev_var rfl) (e1 _ _ ha) T.cl T.nR (lF_ring _ _))) fun _ => et_and (et_is (et_test (ev_op (ev_var rfl) ev_c (rv_eq rfl))) (decV _ _)) fun _ => (et_is (et_test (ev_op (ev_var rfl) (ev_op (ev_len (K := K) (ev_var rfl) (sq_of (e1 _ _ hl))) ev_c rv_I0) (rv_eq rfl))) (decV _ _)))
      (fun hb2 H2 e2 => ?_) (fun hb2 H2 e2 => ?_)
    · simp only [Bool.and_eq_true, decide_eq_true_eq] at hb2
      have : Geo.clash q.1 ss i j = Geo.runsBack (ss.getD j (pz, pz)) (ss.getD i (pz, pz)) := by
        unfold Geo.clash
        rw [if_neg hji, if_pos ⟨hb2.1, by omega, by omega⟩]
      rw [this] at k
      have e := e1.trans e2
      exact s_ret (ev_call (ea_cons (ev_op (ev_var rfl) (ev_var rfl) (rv_ixL (sq_of (e _ _ hl)) (atI_nat w1))) (ea_cons (ev_op (ev_var rfl) (ev_var rfl) (rv_ixL (sq_of (e _ _ hl)) (atI_nat u1))) ea_nil)) (svBack (w2.ex e) (u2.ex e) (sk _ w3) (sk _ u3))) fun H3 e3 => k H3 (e.trans e3)
    · have : Geo.clash q.1 ss i j = Geo.stMeet (ss.getD i (pz, pz)) (ss.getD j (pz, pz)) := by
        unfold Geo.clash
        rw [if_neg hji, if_neg]
        rintro ⟨h1, h2, h3⟩
        have : (q.1 && (decide ((i : Int) = 0) && decide ((j : Int) = (vs.length : Int) - 1))) = true := by
          simp only [Bool.and_eq_true, decide_eq_true_eq]
          exact ⟨h1, by omega, by omega⟩
        rw [hb2] at this
        cases this
      rw [this] at k
      have e := e1.trans e2
      exact s_ret (ev_call (ea_cons (ev_op (ev_var rfl) (ev_var rfl) (rv_ixL (sq_of (e _ _ hl)) (atI_nat u1))) (ea_cons (ev_op (ev_var rfl) (ev_var rfl) (rv_ixL (sq_of (e _ _ hl)) (atI_nat w1))) ea_nil)) (svMeet (u2.ex e) (w2.ex e) (sk _ u3) (sk _ w3))) fun H3 e3 => k H3 (e.trans e3)
end
abbrev dClash (C : Addr) (P : Program) (w : World) (K : PySem.W.Frag) (mg : Str → Option Value) (base : Heap) : Prop := Dn P w K mg base 4 "stretches_clash" ["line", "stretches", "i", "j"] (spClash C)
end PL
namespace PL
open PySem PySem.Spec PyProof.Rows L2 Evl
open Geo (Seg pz PLine)
/-! ### is_sound -/
abbrev sSound : Stmt := top 11
def spSound (C : Addr) : Sp := fun vs H Q _ => ∃ (v : V) (q : PLine), vs = [v] ∧ LineAt C H v q ∧ LineOk q ∧ RetV (.bl (Geo.sound q.1 q.2)) H Q
theorem svSound {C : Addr} {H : Hp} {v : V} {q : PLine} (h : LineAt C H v q) (ok : LineOk q) : SpV (spSound C) [v] H (.bl (Geo.sound q.1 q.2)) := fun H1 e Q k E => ⟨v, q, rfl, h.ex e, ok, k⟩
theorem getD_sk {q : PLine} (ok : LineOk q) {i : Nat} (hi : i < q.2.length) : Sk (q.2.getD i pz) := by
  rw [List.getD_eq_getElem?_getD, List.getElem?_eq_getElem hi]
  exact ok.2 _ (List.getElem_mem hi)
theorem sides_sk {q : PLine} (ok : LineOk q) : ∀ s ∈ Geo.sidesOf q.1 q.2, SkS s := by
  intro s hs
  have ok1 := ok.1
  unfold Geo.sidesOf at hs
  rw [List.mem_append] at hs
  rcases hs with hs | hs
  · obtain ⟨a, b⟩ := s
    have h1 := List.of_mem_zip hs
    exact ⟨ok.2 _ h1.1, ok.2 _ (List.mem_of_mem_drop h1.2)⟩
  · cases hr : q.1 with
    | false => rw [hr] at hs; simp at hs
    | true =>
      rw [hr] at hs
      simp only [if_true, List.mem_singleton] at hs
      rw [hs]
      exact ⟨getD_sk ok (by omega), getD_sk ok (by omega)⟩
theorem sides_len {q : PLine} (ok : LineOk q) : (Geo.sidesOf q.1 q.2).length ≤ 12 := by
  have ok1 := ok.1
  rw [Geo.sidesOf_length _ _ (by intro z; rw [z] at ok1; simp at ok1)]
  split <;> omega
section
variable {P : Program} {w : World} {K : PySem.W.Frag} {mg : Str → Option Value} {base : Heap} {C : Addr}
theorem scSound : FnScope ["line", "stretches", "j", "i"] ["line"] (defScope sSound) := ⟨rfl, rfl, rfl, by decide +kernel, rfl, by decide +kernel, by decide +kernel⟩
theorem ok_sound {f : Addr} {fd : FuncData} (F : Fun K "is_sound" "is_sound" sSound f fd) (B : Bi mg) (T : TL K mg C) (DS : dSides C P w K mg base) (DC : dClash C P w K mg base) : FnOk P w K mg base CX0 5 f fd ["line"] (spSound C) := by
  refine F.ok scSound (fun vs H Q E h => ?_) (fun cdv A outer s H vs Q E hr h => ?_)
  · obtain ⟨v, q, rfl, _⟩ := h
    rfl
  · obtain ⟨v, q, rfl, hv, ok, k⟩ := h
    obtain ⟨a, dx, l, rfl, ha, pts⟩ := id hv
    have ok1 := ok.1
    refine ⟨_, pss_cons (ps_if (pt_cmpR op_lt (pe_callB cr_lenSetT (by rfl) B.len PySem.boot_len (pa_cons (pe_callTy (cr_setOfT rfl hr.units) (by rfl) B.set (by decide +kernel) (pa_cons (pe_fld (pv 0) rfl) pa_nil)) pa_nil))
          (pe_callB call_len_seq (by rfl) B.len PySem.boot_len (pa_cons (pe_fld (pv 0) rfl) pa_nil)) (nomark _)) (pss_one (ps_ret pe_bl)) pss_nil)
      (pss_cons (ps_set (i := 1) scSound.nd rfl (Or.inl rfl) (pe_d DS hr (by decide) rfl (pa_cons (pv 0) pa_nil)))
      (pss_cons (ps_for PassesOwn.never rfl (pi_range1 rfl B.range (pa_cons (pe_callB call_len_seq (by rfl) B.len PySem.boot_len (pa_cons (pv 1) pa_nil)) pa_nil)) (pg_name (i := 2) scSound.nd rfl (Or.inl rfl))
        (pss_one (ps_for PassesOwn.never rfl (pi_range1 rfl B.range (pa_cons (pv 2) pa_nil)) (pg_name (i := 3) scSound.nd rfl (Or.inl rfl))
          (pss_one (ps_if (pt_val (pe_d DC hr (by decide) rfl (pa_cons (pv 0) (pa_cons (pv 1) (pa_cons (pv 3) (pa_cons (pv 2) pa_nil)))))) (pss_one (ps_ret pe_bl)) pss_nil)))))
      (pss_one (ps_ret pe_bl)))), ?_⟩
    have fldP : ∀ (σ : L2.St) (H1 : Hp), Ex H H1 → σ[0]? = some (some (.ref a)) → Ev (tFld K (tVar 0) "points") σ H1 (.ref l) := fun σ H1 e1 hσ => ev_fld (ev_var hσ) (e1 _ _ ha) T.cl T.nP (lF_points _ _)
    have hlenEv : ∀ (σ : L2.St) (H1 : Hp), Ex H H1 → σ[0]? = some (some (.ref a)) → Ev (tCB (rLenS K) (tCons (tFld K (tVar 0) "points") tNil)) σ H1 (.int (q.2.length : Int)) := fun σ H1 e1 hσ => by
      obtain ⟨l', vs, e, hl, he⟩ := exP e1 pts
      cases e
      exact ev_is (ev_len (K := K) (fldP σ H1 e1 hσ) (sq_of hl)) (by rw [he.length])
    refine ev_lenSetT (K := K) (fldP _ H (Ex.refl H) rfl) pts (by omega) H (Ex.refl H) _ fun n H1 e1 hn => ?_
    refine hlenEv _ H1 e1 rfl H1 (Ex.refl H1) _ fun H2 e2 => ⟨(n : Int), (q.2.length : Int), rfl, rfl, _, rfl, ?_⟩
    have e02 := e1.trans e2
    refine ite2 (fun hb => ?_) (fun hb => ?_)
    · -- two points at one place
      refine s_ret (D := { nx := _, rt := Q }) ev_c fun H3 e3 => ?_
      have nd : ¬ q.2.Nodup := hn.mp (by have := of_decide_eq_true hb; omega)
      have : Geo.sound q.1 q.2 = false := by
        unfold Geo.sound
        rw [decide_eq_false nd]
        rfl
      rw [this] at k
      exact k H3 (e02.trans e3)
    have nd : q.2.Nodup := by
      by_cases z : q.2.Nodup
      · exact z
      · have h1 := hn.mpr z
        exact absurd (decide_eq_true (by omega : (n : Int) < (q.2.length : Int))) hb
    show tSeq _ _ _ _ _
    refine q_asgN (R := Sg) (en_call (ea_cons (ev_var rfl) ea_nil) (snSides (hv.ex e02) ok)) fun D vs H3 hD e3 d3 hE => ?_
    have e03 := e02.trans e3
    have hvl := hE.length
    have hsl := sides_len ok
    have fin : (∀ j i, i < j → j < (Geo.sidesOf q.1 q.2).length → Geo.clash q.1 (Geo.sidesOf q.1 q.2) i j = false) → Geo.sound q.1 q.2 = true := fun h => by
      unfold Geo.sound
      rw [decide_eq_true nd, Bool.true_and, List.all_eq_true]
      intro j hj
      rw [List.all_eq_true]
      intro i hi
      rw [h j i (List.mem_range.mp hi) (List.mem_range.mp hj)]
      rfl
    refine q_forR1 (n := ((Geo.sidesOf q.1 q.2).length : Int)) (ea_cons (ev_is (ev_len (K := K) (ev_var rfl) (sq_of d3)) (by rw [hvl])) ea_nil) ⟨by omega, by omega⟩
      (fun m σ' H' => Ex H3 H' ∧ (∃ x y, σ' = [some (.ref a), some (.ref D), x, y]) ∧ ∀ j i, i < j → j < m → Geo.clash q.1 (Geo.sidesOf q.1 q.2) i j = false)
      (fun H4 e4 => ⟨e4, ⟨none, none, rfl⟩, fun j i _ h => by omega⟩) (fun j σ' H' hj ⟨eH, ⟨x, y, es⟩, hno⟩ => ?_) (fun σ' H' ⟨eH, ⟨x, y, es⟩, hno⟩ => ?_)
    · subst es
      refine s_forR1 (D := { nx := _, rt := Q, ct := _, bk := _ }) (n := (j : Int)) (ea_cons (ev_var rfl) ea_nil) ⟨by omega, by omega⟩
        (fun m σ' H' => Ex H3 H' ∧ (∃ y, σ' = [some (.ref a), some (.ref D), some (.int (j : Int)), y]) ∧ ∀ i, i < m → Geo.clash q.1 (Geo.sidesOf q.1 q.2) i j = false)
        (fun H4 e4 => ⟨eH.trans e4, ⟨y, rfl⟩, fun i h => by omega⟩) (fun i σ' H'' hi ⟨eH2, ⟨y2, es⟩, hno2⟩ => ?_) (fun σ' H'' ⟨eH2, ⟨y2, es⟩, hno2⟩ => ?_)
      · subst es
        have e0 := e03.trans eH2
        have hst : Ls Sg H'' (.ref D) (Geo.sidesOf q.1 q.2) := ⟨D, vs, rfl, eH2 _ _ d3, hE.mono fun v x r => r.ex eH2⟩
        refine s_when (et_B (ev_call (ea_cons (ev_var rfl) (ea_cons (ev_var rfl) (ea_cons (ev_var rfl) (ea_cons (ev_var rfl) ea_nil)))) (svClash (hv.ex e0) hst (by omega : i < j) (by omega) (sides_sk ok)))) (fun hb H4 e4 => ?_) (fun hb H4 e4 => ?_)
        · refine s_ret ev_c fun H5 e5 => ?_
          have : Geo.sound q.1 q.2 = false := by
            rw [Bool.eq_false_iff]
            intro z
            unfold Geo.sound at z
            rw [Bool.and_eq_true, List.all_eq_true] at z
            have z1 := z.2 j (List.mem_range.mpr (by omega))
            rw [List.all_eq_true] at z1
            have z2 := z1 i (List.mem_range.mpr (by omega))
            rw [hb] at z2
            cases z2
          rw [this] at k
          exact k H5 ((e0.trans e4).trans e5)
        · refine ⟨eH2.trans e4, ⟨_, rfl⟩, fun i' h => ?_⟩
          by_cases z : i' = i
          · rw [z]; exact hb
          · exact hno2 i' (by omega)
      · subst es
        refine ⟨eH2, ⟨_, _, rfl⟩, fun j' i' h1 h2 => ?_⟩
        by_cases z : j' = j
        · rw [z] at h1 ⊢
          exact hno2 i' (by omega)
        · exact hno j' i' h1 (by omega)
    · subst es
      refine s_ret ev_c fun H5 e5 => ?_
      rw [fin fun j i h1 h2 => hno j i h1 (by omega)] at k
      exact k H5 ((e03.trans eH).trans e5)
end
abbrev dSound (C : Addr) (P : Program) (w : World) (K : PySem.W.Frag) (mg : Str → Option Value) (base : Heap) : Prop := Dn P w K mg base 5 "is_sound" ["line"] (spSound C)
/-! ### lines_meet -/
abbrev sLm : Stmt := top 12
def spLm (C : Addr) : Sp := fun vs H Q _ => ∃ (v c : V) (q o : PLine), vs = [v, c] ∧ LineAt C H v q ∧ LineAt C H c o ∧ LineOk q ∧ LineOk o ∧ RetV (.bl (Geo.linesMeet (Geo.sidesOf q.1 q.2) (Geo.sidesOf o.1 o.2))) H Q
theorem svLm {C : Addr} {H : Hp} {v c : V} {q o : PLine} (h : LineAt C H v q) (hc : LineAt C H c o) (ok : LineOk q) (ok' : LineOk o) : SpV (spLm C) [v, c] H (.bl (Geo.linesMeet (Geo.sidesOf q.1 q.2) (Geo.sidesOf o.1 o.2))) := fun H1 e Q k E => ⟨v, c, q, o, rfl, h.ex e, hc.ex e, ok, ok', k⟩
section
variable {P : Program} {w : World} {K : PySem.W.Frag} {mg : Str → Option Value} {base : Heap} {C : Addr}
theorem scLm : FnScope ["line", "other", "one", "another"] ["line", "other"] (defScope sLm) := ⟨rfl, rfl, rfl, by decide +kernel, rfl, by decide +kernel, by decide +kernel⟩
theorem ok_lm {f : Addr} {fd : FuncData} (F : Fun K "lines_meet" "lines_meet" sLm f fd) (DS : dSides C P w K mg base) (DM : dMeet P w K mg base) : FnOk P w K mg base CX0 4 f fd ["line", "other"] (spLm C) := by
  refine F.ok scLm (fun vs H Q E h => ?_) (fun cdv A outer s H vs Q E hr h => ?_)
  · obtain ⟨v, c, q, o, rfl, _⟩ := h
    rfl
  · obtain ⟨v, c, q, o, rfl, hv, hc, ok, ok', k⟩ := h
    refine ⟨_, pss_cons (ps_for PassesOwn.never rfl (pi_list (pe_d DS hr (by decide) rfl (pa_cons (pv 0) pa_nil))) (pg_name (i := 2) scLm.nd rfl (Or.inl rfl))
        (pss_one (ps_for PassesOwn.never rfl (pi_list (pe_d DS hr (by decide) rfl (pa_cons (pv 1) pa_nil))) (pg_name (i := 3) scLm.nd rfl (Or.inl rfl))
          (pss_one (ps_if (pt_val (pe_d DM hr (by decide) rfl (pa_cons (pv 2) (pa_cons (pv 3) pa_nil)))) (pss_one (ps_ret pe_bl)) pss_nil)))))
      (pss_one (ps_ret pe_bl)), ?_⟩
    refine q_forN (R := Sg) (fun _ _ _ _ => Sg.ex) (en_call (ea_cons (ev_var rfl) ea_nil) (snSides hv ok))
      (fun H1 m σ' H' => Ex H1 H' ∧ (∃ x y, σ' = [some v, some c, x, y]) ∧ ∀ i x, i < m → (Geo.sidesOf q.1 q.2)[i]? = some x → ∀ y ∈ Geo.sidesOf o.1 o.2, Geo.stMeet x y = false)
      (fun H1 e1 => ⟨Ex.refl H1, ⟨none, none, rfl⟩, fun i x h => by omega⟩) (fun H1 i σ' H' p => p.1) (fun H1 e1 i x vx σ' H' hx rx ⟨eH, ⟨y1, y2, es⟩, hno⟩ => ?_) (fun H1 e1 σ' H' ⟨eH, ⟨y1, y2, es⟩, hno⟩ => ?_)
    · subst es
      have e0 := e1.trans eH
      refine s_forN (D := { nx := _, rt := Q, ct := _, bk := _ }) (R := Sg) (fun _ _ _ _ => Sg.ex) (en_call (ea_cons (ev_var rfl) ea_nil) (snSides (hc.ex e0) ok'))
        (fun H2 m σ' H'' => Ex H2 H'' ∧ (∃ y, σ' = [some v, some c, some vx, y]) ∧ ∀ j y, j < m → (Geo.sidesOf o.1 o.2)[j]? = some y → Geo.stMeet x y = false)
        (fun H2 e2 => ⟨Ex.refl H2, ⟨_, rfl⟩, fun i x h => by omega⟩) (fun H2 i σ' H' p => p.1) (fun H2 e2 j y vy σ' H'' hy ry ⟨eH2, ⟨y3, es⟩, hno2⟩ => ?_) (fun H2 e2 σ' H'' ⟨eH2, ⟨y3, es⟩, hno2⟩ => ?_)
      · subst es
        have eA := (eH.trans e2).trans eH2
        refine s_when (et_B (ev_call (ea_cons (ev_var rfl) (ea_cons (ev_var rfl) ea_nil)) (svMeet (Sg.ex (e2.trans eH2) rx) ry (sides_sk ok _ (List.mem_of_getElem? hx)) (sides_sk ok' _ (List.mem_of_getElem? hy))))) (fun hb H4 e4 => ?_) (fun hb H4 e4 => ?_)
        · refine s_ret ev_c fun H5 e5 => ?_
          have : Geo.linesMeet (Geo.sidesOf q.1 q.2) (Geo.sidesOf o.1 o.2) = true := by
            unfold Geo.linesMeet
            rw [List.any_eq_true]
            refine ⟨x, List.mem_of_getElem? hx, ?_⟩
            rw [List.any_eq_true]
            exact ⟨y, List.mem_of_getElem? hy, hb⟩
          rw [this] at k
          exact k H5 (((e1.trans eA).trans e4).trans e5)
        · refine ⟨eH2.trans e4, ⟨_, rfl⟩, fun j' y' h1 h2 => ?_⟩
          by_cases z : j' = j
          · rw [z, hy] at h2
            rw [← Option.some.inj h2]
            exact hb
          · exact hno2 j' y' (by omega) h2
      · subst es
        refine ⟨(eH.trans e2).trans eH2, ⟨_, _, rfl⟩, fun i' x' h1 h2 y hy => ?_⟩
        by_cases z : i' = i
        · rw [z, hx] at h2
          rw [← Option.some.inj h2]
          obtain ⟨j, hj⟩ := List.getElem?_of_mem hy
          exact hno2 j y (List.getElem?_eq_some_iff.mp hj).1 hj
        · exact hno i' x' (by omega) h2 y hy
    · subst es
      refine s_ret ev_c fun H5 e5 => ?_
      have : Geo.linesMeet (Geo.sidesOf q.1 q.2) (Geo.sidesOf o.1 o.2) = false := by
        unfold Geo.linesMeet
        rw [List.any_eq_false]
        intro x hx
        rw [Bool.not_eq_true, List.any_eq_false]
        intro y hy
        rw [Bool.not_eq_true]
        obtain ⟨i, hi⟩ := List.getElem?_of_mem hx
        exact hno i x (List.getElem?_eq_some_iff.mp hi).1 hi y hy
      rw [this] at k
      exact k H5 ((e1.trans eH).trans e5)
end
abbrev dLm (C : Addr) (P : Program) (w : World) (K : PySem.W.Frag) (mg : Str → Option Value) (base : Heap) : Prop := Dn P w K mg base 4 "lines_meet" ["line", "other"] (spLm C)
end PL
namespace PL
open PySem PySem.Spec PyProof.Rows L2 Evl
open Geo (Seg pz PLine Cand Tri)
/-! ### sorted(..) of candidates -/
def plD (p : Pt) : PyData := .tuple [.int p.1, .int p.2]
def triD (t : Tri) : PyData := .list [plD t.1, plD t.2.1, plD t.2.2]
def candD (c : Cand) : PyData := .tuple [.int (c.price : Int), .int (c.k : Int), .int (c.num : Int), triD c.tri]
theorem candD_alike (c d : Cand) : PySem.W.alike (candD c) (candD d) = true := by
  simp [candD, triD, plD, PySem.W.alike, PySem.W.alikeAll]
theorem eqv_int (i j : Int) : PyData.eqv (.int i) (.int j) = (i == j) := by simp [PyData.eqv]
theorem alike_int (i j : Int) : PySem.W.alike (.int i) (.int j) = true := by simp [PySem.W.alike]
theorem candD_le {c d : Cand} (h : PySem.W.dataLe false candD c d = true) : Geo.keyLe c d := by
  rw [PySem.W.dataLe_eq] at h
  simp only [cond_false, Bool.not_eq_true'] at h
  unfold candD at h
  rw [PySem.W.dataLt_tuple, PySem.W.dataLt_cons (alike_int _ _), eqv_int, PySem.W.dataLt_int] at h
  unfold Geo.keyLe
  by_cases h1 : (d.price : Int) = (c.price : Int)
  · rw [if_pos (by rw [h1]; exact beq_self_eq_true _), PySem.W.dataLt_cons (alike_int _ _), eqv_int, PySem.W.dataLt_int] at h
    refine Or.inr ⟨by omega, ?_⟩
    by_cases h2 : (d.k : Int) = (c.k : Int)
    · rw [if_pos (by rw [h2]; exact beq_self_eq_true _), PySem.W.dataLt_cons (alike_int _ _), eqv_int, PySem.W.dataLt_int] at h
      refine Or.inr ⟨by omega, ?_⟩
      by_cases h3 : (d.num : Int) = (c.num : Int)
      · omega
      · rw [if_neg (by rw [beq_iff_eq]; exact h3)] at h
        have := of_decide_eq_false h
        omega
    · rw [if_neg (by rw [beq_iff_eq]; exact h2)] at h
      have := of_decide_eq_false h
      omega
  · rw [if_neg (by rw [beq_iff_eq]; exact h1)] at h
    have := of_decide_eq_false h
    omega
theorem candD_depth (c : Cand) : (candD c).depth ≤ 5 := by
  simp [candD, triD, plD, PyData.depth, PyData.depthAll]
/-- a list of candidates is handed in (R: whatever is known of each); a new list of them, sorted, comes out -/
def rSortedC (K : PySem.W.Frag) : List V → Hp → VK → Prop := fun xs H Q => ∃ (a : Addr) (vs : List V) (cs : List Cand) (R : V → Cand → Prop), xs = [.ref a] ∧ SqL K H a vs ∧ Each R vs cs ∧ (∀ v c, R v c → (∃ b, v = .ref b) ∧ Dp K H v (candD c)) ∧
  ∀ p us ds, ds.Perm cs → ds.Pairwise Geo.keyLe → Each R us ds → H p = none → Q (.ref p) (upd H p (.lst us))
theorem each_vals {R : V → Cand → Prop} : ∀ {vs : List V} {us : List Value} {cs : List Cand}, Each R vs cs → Vals vs us → PySem.W.EachIs (fun u c => ∃ v, RelV v u ∧ R v c) us cs
  | [], [], [], _, .nil => .nil
  | _ :: _, _ :: _, _ :: _, h, .cons r t => .cons ⟨_, r, h.1⟩ (each_vals h.2 t)
  | [], _, _ :: _, h, _ => h.elim
  | _ :: _, _, [], h, _ => h.elim
theorem vals_each {R : V → Cand → Prop} : ∀ {us : List Value} {cs : List Cand}, PySem.W.EachIs (fun u c => ∃ v, RelV v u ∧ R v c) us cs → ∃ vs, Vals vs us ∧ Each R vs cs
  | _, _, .nil => ⟨[], .nil, trivial⟩
  | _, _, .cons ⟨v, r, h⟩ t => by
    obtain ⟨vs, h1, h2⟩ := vals_each t
    exact ⟨v :: vs, .cons r h1, h, h2⟩
theorem cr_sortedC {X : Cx} (hu : X.A.units + 64 < cLine) : CallR X (.builtin "sorted") (rSortedC X.K) := by
  intro pins s σ H xs us Q I r h
  obtain ⟨a, vs, cs, R, rfl, hs, hE, hR, q⟩ := h
  obtain ⟨its, rv, hl, hz⟩ := I.list hs
  obtain ⟨u, rfl, ru⟩ := vals1 r
  obtain rfl : u = Value.ref a := ru
  have e1 := each_vals hE rv
  refine PySem.W.sorted_data (enc := candD) hl.isList e1 (e1.mono fun u c ⟨v, rel, rc⟩ => Dp.reads I _ v u (hR v c rc).2 rel) (PySem.W.AllAlike.of candD_alike) (PySem.W.Sortable.tuples fun c => ⟨_, _, rfl⟩) (by rw [← hE.length]; exact hz) (fun c _ => ?_) (fun out hlen ho => ?_)
  · have := candD_depth c
    omega
  · obtain ⟨ws, w1, w2⟩ := vals_each ho
    obtain ⟨n, hn⟩ := sortedAll_at s.heap its out.toArray
    have tot := PySem.W.sortLe_total (listOrd itemOrd) false fun b => PySem.W.keyToks (candD b)
    have pw : (cs.mergeSort (PySem.W.dataLe false candD)).Pairwise Geo.keyLe := (PySem.W.sort_pairwise tot cs).imp fun h => candD_le h
    refine ⟨.ref (s.heap.objs.size + 1), upd H (s.heap.objs.size + 1) (.lst ws), I.laid (t' := s.toks) (fun b o hb => sortedAll_old hb) (by omega) ⟨?_, out, n, w1, hn⟩, rfl, q _ ws _ (List.mergeSort_perm _ _) pw w2 (I.hok.fresh (by omega))⟩
    rw [w1.length, hlen, ← hE.length]
    exact hz
end PL
namespace PL
open PySem PySem.Spec PyProof.Rows L2 Evl
open Geo (Seg pz PLine Cand Tri)
/-- a list of counts -/
def nV (l : List Nat) : List V := l.map fun (i : Nat) => V.int (i : Int)
theorem nV_len (l : List Nat) : (nV l).length = l.length := List.length_map _
theorem nV_get {l : List Nat} {i : Nat} (h : i < l.length) : (nV l)[i]? = some (.int ((l.getD i 0 : Nat) : Int)) := by
  unfold nV
  rw [List.getElem?_map, List.getElem?_eq_getElem h, List.getD_eq_getElem?_getD, List.getElem?_eq_getElem h]
  rfl
def NatL (H : Hp) (v : V) (l : List Nat) : Prop := ∃ b, v = .ref b ∧ H b = some (.lst (nV l))
theorem NatL.ex {H H' : Hp} {v : V} {l : List Nat} (s : Ex H H') (h : NatL H v l) : NatL H' v l := by
  obtain ⟨b, e, h⟩ := h
  exact ⟨b, e, s _ _ h⟩
theorem exN {H H' : Hp} {v : V} {F : List (List Nat)} (s : Ex H H') (h : Ls NatL H v F) : Ls NatL H' v F := Ls.ex (R := NatL) (fun _ _ _ _ => NatL.ex) s h
theorem exL {C : Addr} {H H' : Hp} {v : V} {L : List PLine} (s : Ex H H') (h : Ls (LineAt C) H v L) : Ls (LineAt C) H' v L := Ls.ex (R := LineAt C) (fun _ _ _ _ => LineAt.ex) s h
theorem el_rng1 {σ : L2.St} {H : Hp} {ta : TE} {n : Int} (h : Ev ta σ H (.int n)) (hn : 0 ≤ n ∧ n ≤ 100000) : EvL (tLstRg (tRg1 ta)) σ H (rgV 0 n) := fun H1 e Q q =>
  h H1 e _ fun H2 e2 => ⟨n, rfl, RgOk.of_le (by omega) (by omega) (by omega) (by omega), fun p hp => q p _ (fresh_back e2 hp) (e2.trans (Ex.new hp)) upd_same⟩
theorem el_rng2 {σ : L2.St} {H : Hp} {ta tb : TE} {m n : Int} (h : Ev ta σ H (.int m)) (h' : Ev tb σ H (.int n)) (hm : 0 ≤ m ∧ m ≤ 100000) (hn : -100 ≤ n ∧ n ≤ 100000) : EvL (tLstRg (tRg2 ta tb)) σ H (rgV m n) := fun H1 e Q q =>
  h H1 e _ fun H2 e2 => h' H2 (e.trans e2) _ fun H3 e3 => ⟨m, n, rfl, rfl, ⟨by omega, by omega, by omega, by omega, by omega⟩, fun p hp => q p _ (fresh_back (e2.trans e3) hp) ((e2.trans e3).trans (Ex.new hp)) upd_same⟩
/-! ### free_positions -/
abbrev sFree : Stmt := top 40
def spFree (C : Addr) : Sp := fun vs H Q _ => ∃ (v f : V) (q : PLine) (lf : List Nat), vs = [v, f] ∧ LineAt C H v q ∧ NatL H f lf ∧ lf.length ≤ 12 ∧ RetL (nV (Geo.free q.1 lf.length)) H Q
theorem slFree {C : Addr} {H : Hp} {v f : V} {q : PLine} {lf : List Nat} (h : LineAt C H v q) (hf : NatL H f lf) (hl : lf.length ≤ 12) : SpL (spFree C) [v, f] H (nV (Geo.free q.1 lf.length)) := fun H1 e Q k E => ⟨v, f, q, lf, rfl, h.ex e, hf.ex e, hl, k⟩
section
variable {P : Program} {w : World} {K : PySem.W.Frag} {mg : Str → Option Value} {base : Heap} {C : Addr}
theorem scFree : FnScope ["line", "left"] ["line", "left"] (defScope sFree) := ⟨rfl, rfl, rfl, by decide +kernel, rfl, by decide +kernel, by decide +kernel⟩
theorem ok_free {f : Addr} {fd : FuncData} (F : Fun K "free_positions" "free_positions" sFree f fd) (B : Bi mg) (T : TL K mg C) : FnOk P w K mg base CX0 1 f fd ["line", "left"] (spFree C) := by
  refine F.ok scFree (fun vs H Q E h => ?_) (fun cdv A outer s H vs Q E hr h => ?_)
  · obtain ⟨v, c, q, lf, rfl, _⟩ := h
    rfl
  · obtain ⟨v, _, q, lf, rfl, hv, ⟨b, rfl, hb⟩, hl, k⟩ := h
    obtain ⟨a, dx, l, rfl, ha, _⟩ := id hv
    refine ⟨_, pss_cons (ps_if (pt_not (pt_val (pe_fld (pv 0) rfl))) (pss_one (ps_ret (pe_listRg rfl (by rfl) B.list (prg_2 (by rfl) B.range pe_int (pe_op op_sub (pe_callB call_len_seq (by rfl) B.len PySem.boot_len (pa_cons (pv 1) pa_nil)) pe_int))))) pss_nil)
      (pss_cons (ps_if (pt_cmpR op_gt (pe_callB call_len_seq (by rfl) B.len PySem.boot_len (pa_cons (pv 1) pa_nil)) pe_int (nomark _)) (pss_one (ps_ret (pe_listRg rfl (by rfl) B.list (prg_1 (by rfl) B.range (pe_callB call_len_seq (by rfl) B.len PySem.boot_len (pa_cons (pv 1) pa_nil)))))) pss_nil)
      (pss_one (ps_ret (pe_lst pa_nil)))), ?_⟩
    have hlen : ∀ (σ : L2.St) (H1 : Hp), Ex H H1 → σ[1]? = some (some (.ref b)) → Ev (tCB (rLenS K) (tCons (tVar 1) tNil)) σ H1 (.int (lf.length : Int)) := fun σ H1 e hσ => ev_is (ev_len (K := K) (ev_var hσ) (sq_of (e _ _ hb))) (by rw [nV_len])
    refine q_when (et_not (et_B (ev_fld (ev_var rfl) ha T.cl T.nR (lF_ring _ _)))) (fun hc H1 e1 => ?_) (fun hc H1 e1 => ?_)
    · refine s_retL (el_rng2 ev_c (ev_op (hlen _ H1 e1 rfl) ev_c rv_I0) (by decide) (by omega)) fun p H2 hp e2 h2 => k p H2 (fresh_back e1 hp) (e1.trans e2) ?_
      rw [h2]
      congr 2
      have hq : q.1 = false := by simpa using hc
      unfold rgV nV Geo.free
      rw [hq]
      simp only [Bool.false_eq_true, if_false]
      rw [List.range'_eq_map_range, List.map_map]
      have e : ((lf.length : Int) - 1 - 1).toNat = lf.length - 2 := by omega
      rw [e]
      apply List.map_congr_left
      intro i _
      show V.int (1 + (i : Int)) = V.int ((1 + i : Nat) : Int)
      congr 1
    have hq : q.1 = true := by simpa using hc
    refine q_when (et_test (ev_op (hlen _ H1 e1 rfl) ev_c rv_I0)) (fun hc2 H2 e2 => ?_) (fun hc2 H2 e2 => ?_)
    · have h3 := of_decide_eq_true hc2
      refine s_retL (el_rng1 (hlen _ H2 (e1.trans e2) rfl) (by omega)) fun p H3 hp e3 h3' => k p H3 (fresh_back (e1.trans e2) hp) ((e1.trans e2).trans e3) ?_
      rw [h3']
      congr 2
      unfold rgV nV Geo.free
      rw [hq, if_pos rfl, if_pos (by omega)]
      have e : ((lf.length : Int) - 0).toNat = lf.length := by omega
      rw [e]
      apply List.map_congr_left
      intro i _
      show V.int (0 + (i : Int)) = V.int (i : Int)
      rw [Int.zero_add]
    · have h3 := of_decide_eq_false hc2
      refine s_retL (el_lst ea_nil (by decide)) fun p H3 hp e3 h3' => k p H3 (fresh_back (e1.trans e2) hp) ((e1.trans e2).trans e3) ?_
      rw [h3']
      unfold nV Geo.free
      rw [hq, if_pos rfl, if_neg (by omega)]
      rfl
end
abbrev dFree (C : Addr) (P : Program) (w : World) (K : PySem.W.Frag) (mg : Str → Option Value) (base : Heap) : Prop := Dn P w K mg base 1 "free_positions" ["line", "left"] (spFree C)
/-! ### corners_at -/
abbrev sCorn : Stmt := top 41
abbrev triL (t : Tri) : List Pt := [t.1, t.2.1, t.2.2]
def spCorn (C : Addr) : Sp := fun vs H Q _ => ∃ (v f : V) (q : PLine) (lf : List Nat) (pos : Nat), vs = [v, f, .int (pos : Int)] ∧ LineAt C H v q ∧ NatL H f lf ∧ LineOk q ∧ (∀ i ∈ lf, i < q.2.length) ∧ pos < lf.length ∧ lf.length ≤ 12 ∧ RetN Pl (triL (Geo.cornersAt q.2 lf pos)) H Q
theorem snCorn {C : Addr} {H : Hp} {v f : V} {q : PLine} {lf : List Nat} {pos : Nat} (h : LineAt C H v q) (hf : NatL H f lf) (ok : LineOk q) (hi : ∀ i ∈ lf, i < q.2.length) (hp : pos < lf.length) (hl : lf.length ≤ 12) : SpN (spCorn C) [v, f, .int (pos : Int)] H Pl (triL (Geo.cornersAt q.2 lf pos)) :=
  fun H1 e Q k E => ⟨v, f, q, lf, pos, rfl, h.ex e, hf.ex e, ok, hi, hp, hl, k⟩
theorem atI_prev {α : Type} {xs : List α} {i : Nat} (h : i < xs.length) : atI xs ((i : Int) - 1) = xs[(i + xs.length - 1) % xs.length]? := by
  unfold atI ixN
  by_cases h0 : i = 0
  · subst h0
    rw [if_neg (by omega), if_pos (by omega)]
    have e : (((0 : Nat) : Int) - 1 + (xs.length : Int)).toNat = xs.length - 1 := by omega
    rw [e, Nat.zero_add, Nat.mod_eq_of_lt (by omega)]
    rfl
  · rw [if_pos (by omega), if_pos (by omega)]
    have e : ((i : Int) - 1).toNat = i - 1 := by omega
    have e2 : i + xs.length - 1 = (i - 1) + xs.length := by omega
    rw [e, e2, Nat.add_mod_right, Nat.mod_eq_of_lt (by omega)]
    rfl
section
variable {P : Program} {w : World} {K : PySem.W.Frag} {mg : Str → Option Value} {base : Heap} {C : Addr}
theorem scCorn : FnScope ["line", "left", "position", "ahead", "behind"] ["line", "left", "position"] (defScope sCorn) := ⟨rfl, rfl, rfl, by decide +kernel, rfl, by decide +kernel, by decide +kernel⟩
theorem ok_corn {f : Addr} {fd : FuncData} (F : Fun K "corners_at" "corners_at" sCorn f fd) (B : Bi mg) (T : TL K mg C) : FnOk P w K mg base CX0 1 f fd ["line", "left", "position"] (spCorn C) := by
  refine F.ok scCorn (fun vs H Q E h => ?_) (fun cdv A outer s H vs Q E hr h => ?_)
  · obtain ⟨v, c, q, lf, pos, rfl, _⟩ := h
    rfl
  · obtain ⟨v, _, q, lf, pos, rfl, hv, ⟨b, rfl, hb⟩, ok, hin, hpos, hl, k⟩ := h
    obtain ⟨a, dx, l, rfl, ha, pts⟩ := id hv
    obtain ⟨_, vs, e, hpl, he⟩ := id pts
    cases e
    have hlenp := he.length
    refine ⟨_, pss_cons (ps_set (i := 3) scCorn.nd rfl (Or.inl rfl) (pe_ix ix_list (pv 1) (pe_op op_sub (pv 2) pe_int) (fun _ _ => rfl)))
      (pss_cons (ps_set (i := 4) scCorn.nd rfl (Or.inl rfl) (pe_ix ix_list (pv 1) (pe_op op_mod (pe_op op_add (pv 2) pe_int) (pe_callB call_len_seq (by rfl) B.len PySem.boot_len (pa_cons (pv 1) pa_nil))) (fun _ _ => rfl)))
      (pss_one (ps_ret (pe_lst (pa_cons (pe_ix ix_list (pe_fld (pv 0) rfl) (pv 3) (fun _ _ => rfl)) (pa_cons (pe_ix ix_list (pe_fld (pv 0) rfl) (pe_ix ix_list (pv 1) (pv 2) (fun _ _ => rfl)) (fun _ _ => rfl)) (pa_cons (pe_ix ix_list (pe_fld (pv 0) rfl) (pv 4) (fun _ _ => rfl)) pa_nil))))))), ?_⟩
    have m1 : (pos + lf.length - 1) % lf.length < lf.length := Nat.mod_lt _ (by omega)
    have m2 : (pos + 1) % lf.length < lf.length := Nat.mod_lt _ (by omega)
    refine q_asg (v := .int ((lf.getD ((pos + lf.length - 1) % lf.length) 0 : Nat) : Int)) (ev_op (ev_var rfl) (ev_op (ev_var rfl) ev_c rv_I0) (rv_ixL (sq_of hb) ?_)) fun H1 e1 => ?_
    · rw [atI_prev (by rw [nV_len]; exact hpos), nV_len]
      exact nV_get m1
    refine q_asg (v := .int ((lf.getD ((pos + 1) % lf.length) 0 : Nat) : Int)) (ev_op (ev_var rfl) (ev_op (ev_op (ev_var rfl) ev_c rv_I0) (ev_is (ev_len (K := K) (ev_var rfl) (sq_of (e1 _ _ hb))) (by rw [nV_len])) (rv_I (by show (0 : Int) < (lf.length : Int); omega))) (rv_ixL (sq_of (e1 _ _ hb)) ?_)) fun H2 e2 => ?_
    · have e : ((pos : Int) + 1) % (lf.length : Int) = (((pos + 1) % lf.length : Nat) : Int) := by
        push_cast
        rfl
      rw [e]
      exact atI_nat (nV_get m2)
    have e02 := e1.trans e2
    have get : ∀ (i : Nat), i < lf.length → ∃ u, vs[lf.getD i 0]? = some u ∧ Pl H u (q.2.getD (lf.getD i 0) pz) := fun i hi => by
      have h1 := hin _ (Geo.getD_mem hi)
      obtain ⟨u, u1, u2⟩ := he.get' (List.getElem?_eq_getElem h1)
      refine ⟨u, u1, ?_⟩
      rw [List.getD_eq_getElem?_getD (l := q.2), List.getElem?_eq_getElem h1]
      exact u2
    obtain ⟨x, x1, x2⟩ := get _ m1
    obtain ⟨y, y1, y2⟩ := get _ hpos
    obtain ⟨z, z1, z2⟩ := get _ m2
    have fld : ∀ (σ : L2.St), σ[0]? = some (some (.ref a)) → Ev (tFld K (tVar 0) "points") σ H2 (.ref l) := fun σ hσ => ev_fld (ev_var hσ) (e02 _ _ ha) T.cl T.nP (lF_points _ _)
    have hp2 := e02 _ _ hpl
    refine s_retL (el_lst (ea_cons (ev_op (fld _ rfl) (ev_var rfl) (rv_ixL (sq_of hp2) (atI_nat x1))) (ea_cons (ev_op (fld _ rfl) (ev_op (ev_var rfl) (ev_var rfl) (rv_ixL (sq_of (e02 _ _ hb)) (atI_nat (nV_get hpos)))) (rv_ixL (sq_of hp2) (atI_nat y1))) (ea_cons (ev_op (fld _ rfl) (ev_var rfl) (rv_ixL (sq_of hp2) (atI_nat z1))) ea_nil))) (by show 3 ≤ 100000; decide)) fun p H3 hp e3 h3 => ?_
    have e03 := e02.trans e3
    exact k p _ H3 (fresh_back e02 hp) e03 h3 ⟨x2.ex e03, y2.ex e03, z2.ex e03, trivial⟩
end
abbrev dCorn (C : Addr) (P : Program) (w : World) (K : PySem.W.Frag) (mg : Str → Option Value) (base : Heap) : Prop := Dn P w K mg base 1 "corners_at" ["line", "left", "position"] (spCorn C)
end PL
namespace PL
open PySem PySem.Spec PyProof.Rows L2 Evl
open Geo (Seg pz PLine Cand Tri)
/-! ### candidates -/
abbrev sCands : Stmt := top 42
def CandAt (D : Addr) (H : Hp) (v : V) (c : Cand) : Prop := ∃ b l vs, v = .ref b ∧ H b = some (.tup [.int (c.price : Int), .int (c.k : Int), .int (c.num : Int), .ref l]) ∧ l ≠ D ∧ H l = some (.lst vs) ∧ Each (Pl H) vs (triL c.tri)
/-- told without the list that is being filled -/
def CandIn (H : Hp) (v : V) (c : Cand) : Prop := ∃ b l vs, v = .ref b ∧ H b = some (.tup [.int (c.price : Int), .int (c.k : Int), .int (c.num : Int), .ref l]) ∧ H l = some (.lst vs) ∧ Each (Pl H) vs (triL c.tri)
theorem CandAt.exD {D : Addr} {H H' : Hp} {acc : List V} (hD : H D = some (.lst acc)) (e : ∀ a o, a ≠ D → H a = some o → H' a = some o) {v : V} {c : Cand} (h : CandAt D H v c) : CandAt D H' v c := by
  obtain ⟨b, l, vs, h1, h2, h3, h4, h5⟩ := h
  have et : ExT H H' := fun a xs q => e a _ (ne_of q hD (by intro z; cases z)) q
  exact ⟨b, l, vs, h1, et _ _ h2, h3, e _ _ h3 h4, h5.mono fun v x r => r.exT et⟩
theorem CandAt.ex {D : Addr} {H H' : Hp} (e : Ex H H') {v : V} {c : Cand} (h : CandAt D H v c) : CandAt D H' v c := by
  obtain ⟨b, l, vs, h1, h2, h3, h4, h5⟩ := h
  exact ⟨b, l, vs, h1, e _ _ h2, h3, e _ _ h4, h5.mono fun v x r => r.ex e⟩
theorem CandAt.in_ {D : Addr} {H : Hp} {v : V} {c : Cand} (h : CandAt D H v c) : CandIn H v c := by
  obtain ⟨b, l, vs, h1, h2, h3, h4, h5⟩ := h
  exact ⟨b, l, vs, h1, h2, h4, h5⟩
theorem CandIn.ex {H H' : Hp} (e : Ex H H') {v : V} {c : Cand} (h : CandIn H v c) : CandIn H' v c := by
  obtain ⟨b, l, vs, h1, h2, h4, h5⟩ := h
  exact ⟨b, l, vs, h1, e _ _ h2, e _ _ h4, h5.mono fun v x r => r.ex e⟩
theorem Pl.dp {K : PySem.W.Frag} {H : Hp} {v : V} {p : Pt} (h : Pl H v p) : Dp K H v (plD p) := by
  obtain ⟨a, rfl, h⟩ := h
  exact .tup (st_of h) (.cons (.int _) (.cons (.int _) .nil))
theorem CandIn.dp {K : PySem.W.Frag} {H : Hp} {v : V} {c : Cand} (h : CandIn H v c) : (∃ b, v = .ref b) ∧ Dp K H v (candD c) := by
  obtain ⟨b, l, vs, rfl, h2, h4, h5⟩ := h
  refine ⟨⟨b, rfl⟩, .tup (st_of h2) (.cons (.int _) (.cons (.int _) (.cons (.int _) (.cons (.lst (sq_of h4) ?_) .nil))))⟩
  match vs, h5 with
  | [x, y, z], ⟨a1, a2, a3, _⟩ => exact .cons a1.dp (.cons a2.dp (.cons a3.dp .nil))
/-- the map as candidates are looked for: lines, and what is left of each -/
structure MapOk (L : List PLine) (F : List (List Nat)) : Prop where
  wf : Geo.Wf L F
  ok : ∀ q ∈ L, LineOk q
  few : L.length ≤ 4
  short : ∀ lf ∈ F, lf.length ≤ 12
def RetC (L : List PLine) (F : List (List Nat)) (H : Hp) (Q : VK) : Prop := ∀ p us ds H2, H p = none → Ex H H2 → H2 p = some (.lst us) → ds.Perm (Geo.cands L F) → ds.Pairwise Geo.keyLe → Each (CandIn H2) us ds → Q (.ref p) H2
def spCands (C : Addr) : Sp := fun vs H Q _ => ∃ (v f : V) (L : List PLine) (F : List (List Nat)), vs = [v, f] ∧ Ls (LineAt C) H v L ∧ Ls NatL H f F ∧ MapOk L F ∧ RetC L F H Q
theorem zipIdx_get {α : Type} {l : List α} {i : Nat} {x : α} (h : l[i]? = some x) : l.zipIdx[i]? = some (x, i) := by
  rw [List.getElem?_zipIdx, h]
  simp
theorem tri_sk {q : PLine} {lf : List Nat} {pos : Nat} (ok : LineOk q) (hin : ∀ i ∈ lf, i < q.2.length) (hp : pos < lf.length) : Sk (Geo.cornersAt q.2 lf pos).1 ∧ Sk (Geo.cornersAt q.2 lf pos).2.1 ∧ Sk (Geo.cornersAt q.2 lf pos).2.2 := by
  have g : ∀ i, i < lf.length → Sk (q.2.getD (lf.getD i 0) pz) := fun i hi => getD_sk ok (hin _ (Geo.getD_mem hi))
  unfold Geo.cornersAt
  exact ⟨g _ (Nat.mod_lt _ (by omega)), g _ hp, g _ (Nat.mod_lt _ (by omega))⟩
theorem flatMap_len {α β : Type} (f : α → List β) (n : Nat) : ∀ l : List α, (∀ x ∈ l, (f x).length ≤ n) → (l.flatMap f).length ≤ n * l.length
  | [], _ => by simp
  | a :: l, h => by
    have h1 := h a (by simp)
    have h2 := flatMap_len f n l fun x hx => h x (List.mem_cons_of_mem _ hx)
    rw [List.flatMap_cons, List.length_append, List.length_cons, Nat.mul_add]
    omega
theorem free_len {r : Bool} {n : Nat} (h : n ≤ 12) : (Geo.free r n).length ≤ 12 := by
  unfold Geo.free
  split
  · split
    · rw [List.length_range]; exact h
    · simp
  · rw [List.length_range']; omega
theorem cands_len {L : List PLine} {G : List (List Nat)} (M : MapOk L G) : (Geo.cands L G).length ≤ 48 := by
  unfold Geo.cands
  have h := flatMap_len (fun z : (PLine × List Nat) × Nat => Geo.candsLine z.2 z.1.1 z.1.2) 12 (L.zip G).zipIdx (fun z hz => by
    obtain ⟨⟨q, lf⟩, i⟩ := z
    unfold Geo.candsLine
    rw [List.length_map]
    have hm : (q, lf) ∈ L.zip G := by
      rw [List.mem_zipIdx_iff_getElem?] at hz
      exact List.mem_of_getElem? hz
    exact free_len (M.short lf (List.of_mem_zip hm).2))
  have : (L.zip G).zipIdx.length ≤ 4 := by
    have := M.few
    rw [List.length_zipIdx, List.length_zip]
    omega
  omega
theorem abs_int (z : Int) : (if z < 0 then -z else z) = ((z.natAbs : Nat) : Int) := by split <;> omega
section
variable {P : Program} {w : World} {K : PySem.W.Frag} {mg : Str → Option Value} {base : Heap} {C : Addr}
abbrev nCands : List Str := ["lines", "left", "found", "k", "line", "position", "corners", "price"]
theorem scCands : FnScope nCands ["lines", "left"] (defScope sCands) := ⟨rfl, rfl, rfl, by decide +kernel, rfl, by decide +kernel, by decide +kernel⟩
theorem ok_cands {f : Addr} {fd : FuncData} (F : Fun K "candidates" "candidates" sCands f fd) (B : Bi mg) (DF : dFree C P w K mg base) (DC : dCorn C P w K mg base) (DB : dBend P w K mg base) : FnOk P w K mg base CX0 2 f fd ["lines", "left"] (spCands C) := by
  refine F.ok scCands (fun vs H Q E h => ?_) (fun cdv A outer s H vs Q E hr h => ?_)
  · obtain ⟨v, c, L, G, rfl, _⟩ := h
    rfl
  · obtain ⟨_, _, L, G, rfl, hL, hG, M, k⟩ := h
    obtain ⟨al, ls, rfl, hal, hel⟩ := id hL
    obtain ⟨ag, gs, rfl, hag, heg⟩ := id hG
    have lenl := hel.length
    have leng := heg.length
    have few := M.few
    refine ⟨_, pss_cons (ps_set (i := 2) scCands.nd rfl (Or.inl rfl) (pe_lst pa_nil))
      (pss_cons (ps_for PassesOwn.never rfl (pi_enum (by rfl) B.enumerate (pa_cons (pv 0) pa_nil)) (pg_tup rfl (pgs_cons (pg_name (i := 3) scCands.nd rfl (Or.inl rfl)) (pgs_cons (pg_name (i := 4) scCands.nd rfl (Or.inl rfl)) pgs_nil)))
        (pss_one (ps_for PassesOwn.never rfl (pi_list (pe_d DF hr (by decide) rfl (pa_cons (pv 4) (pa_cons (pe_ix ix_list (pv 1) (pv 3) (fun _ _ => rfl)) pa_nil)))) (pg_name (i := 5) scCands.nd rfl (Or.inl rfl))
          (pss_cons (ps_set (i := 6) scCands.nd rfl (Or.inl rfl) (pe_d DC hr (by decide) rfl (pa_cons (pv 4) (pa_cons (pe_ix ix_list (pv 1) (pv 3) (fun _ _ => rfl)) (pa_cons (pv 5) pa_nil)))))
          (pss_cons (ps_set (i := 7) scCands.nd rfl (Or.inl rfl) (pe_callB call_abs (by rfl) B.abs (by decide +kernel) (pa_cons (pe_d DB hr (by decide) rfl (pa_cons (pe_ix ix_list (pv 6) pe_int (fun _ _ => rfl)) (pa_cons (pe_ix ix_list (pv 6) pe_int (fun _ _ => rfl)) (pa_cons (pe_ix ix_list (pv 6) pe_int (fun _ _ => rfl)) pa_nil)))) pa_nil)))
          (pss_one (ps_expr (pe_bm PySem.F.plainAttrs_list PySem.F.slot_list_append PySem.F.type_list_append mt_append (pv 2) (pa_cons (pe_tup (pa_cons (pv 7) (pa_cons (pv 3) (pa_cons (pe_ix ix_list (pe_ix ix_list (pv 1) (pv 3) (fun _ _ => rfl)) (pv 5) (fun _ _ => rfl)) (pa_cons (pv 6) pa_nil))))) pa_nil)))))))))
      (pss_one (ps_ret (pe_callB (cr_sortedC hr.units) (by rfl) B.sorted (by decide +kernel) (pa_cons (pv 2) pa_nil))))), ?_⟩
    refine q_asgL (el_lst ea_nil (by decide)) fun D H1 hD e1 d1 => ?_
    -- what has been found by the first k lines
    let upto : Nat → List Cand := fun k => ((L.zip G).zipIdx.take k).flatMap fun z => Geo.candsLine z.2 z.1.1 z.1.2
    have uptoMore : ∀ (k : Nat) (q : PLine) (lf : List Nat), L[k]? = some q → G[k]? = some lf → upto (k + 1) = upto k ++ Geo.candsLine k q lf := fun k q lf h1 h2 => by
      show ((L.zip G).zipIdx.take (k + 1)).flatMap _ = _
      have hz : (L.zip G)[k]? = some (q, lf) := by
        rw [List.getElem?_zip_eq_some]
        exact ⟨h1, h2⟩
      rw [take_more (zipIdx_get hz), List.flatMap_append]
      simp only [List.flatMap_cons, List.flatMap_nil, List.append_nil]
      rfl
    let Iv : List Cand → L2.St → Hp → Prop := fun cs σ' H' => (∃ x3 x4 x5 x6 x7, σ' = [some (.ref al), some (.ref ag), some (.ref D), x3, x4, x5, x6, x7]) ∧ Ex H H' ∧ ∃ acc, H' D = some (.lst acc) ∧ Each (CandAt D H') acc cs
    refine ⟨_, rfl, al, ls, rfl, sq_of (e1 _ _ hal), for_it (walk_enum (K := K) (a := al) (xs := ls)) (fun i σ' H' => Iv (upto i) σ' H') ⟨⟨none, none, none, none, none, rfl⟩, e1, [], d1, trivial⟩ (fun i σ' H' _ p => sq_of (p.2.1 _ _ hal)) ?_ ?_⟩
    · rintro i x σ' H' H'' hi ⟨⟨x3, x4, x5, x6, x7, rfl⟩, eH, acc, hacc, hE⟩ ⟨Tt, vi, vl, rfl, hT, rfl, h4, h5⟩
      have h4 : V.int (i : Nat) = vi := Option.some.inj h4
      subst h4
      refine ⟨Tt, _, rfl, st_of upd_same, rfl, _, _, rfl, _, _, rfl, rfl, ?_⟩
      obtain ⟨q, hq1, hq2⟩ := hel.get h5
      have hiG : i < G.length := by have := M.wf.len; omega
      have hg1 : G[i]? = some G[i] := List.getElem?_eq_getElem hiG
      obtain ⟨vf, hf1, hf2⟩ := heg.get' hg1
      generalize G[i] = lf at hg1 hf2
      have Wl := M.wf.each i q lf hq1 hg1
      have okq := M.ok q (List.mem_of_getElem? hq1)
      have shl := M.short lf (List.mem_of_getElem? hg1)
      have eT : Ex H' (upd H' Tt (.tup [.int (i : Nat), vl])) := Ex.new hT
      have e2 : Ex H (upd H' Tt (.tup [.int (i : Nat), vl])) := eH.trans eT
      have d2 : (upd H' Tt (.tup [.int (i : Nat), vl])) D = some (.lst acc) := eT _ _ hacc
      have hE2 : Each (CandAt D (upd H' Tt (.tup [.int (i : Nat), vl]))) acc (upto i) := hE.mono fun v c r => r.ex eT
      generalize (upd H' Tt (.tup [.int (i : Nat), vl])) = H2 at e2 d2 hE2
      have leftk : ∀ (σ : L2.St) (Hx : Hp), Ex H Hx → σ[1]? = some (some (.ref ag)) → σ[3]? = some (some (.int (i : Nat))) → Ev (tOp (rIxL K) (tVar 1) (tVar 3)) σ Hx vf := fun σ Hx e h1 h3 => ev_op (ev_var h1) (ev_var h3) (rv_ixL (sq_of (e _ _ hag)) (atI_nat hf1))
      refine s_forNL (D := { nx := _, rt := Q, ct := _, bk := _ }) (K := K) (xs := nV (Geo.free q.1 lf.length)) (el_call (ea_cons (ev_var rfl) (ea_cons (leftk _ _ e2 rfl rfl) ea_nil)) (slFree (hq2.ex e2) (hf2.ex e2) shl))
        (fun p j σ' H' => H' p = some (.lst (nV (Geo.free q.1 lf.length))) ∧ p ≠ D ∧ (∃ x5 x6 x7, σ' = [some (.ref al), some (.ref ag), some (.ref D), some (.int (i : Nat)), some vl, x5, x6, x7]) ∧ Ex H H' ∧ ∃ acc, H' D = some (.lst acc) ∧ Each (CandAt D H') acc (upto i ++ ((Geo.free q.1 lf.length).take j).map (Geo.candAt i q lf)))
        (fun p H3 hp e3 h3 => ⟨h3, (fun z => by rw [z, d2] at hp; cases hp), ⟨_, _, _, rfl⟩, e2.trans e3, acc, e3 _ _ d2, by simpa using hE2.mono fun v c r => r.ex e3⟩) (fun p j σ' H' _ z => sq_of z.1) ?_ ?_
      · rintro p j xv σ' H' hj ⟨hp, pD, ⟨x5, x6, x7, rfl⟩, eH3, acc3, hacc3, hE3⟩
        have jlt : j < (Geo.free q.1 lf.length).length := by
          have := (List.getElem?_eq_some_iff.mp hj).1
          rw [nV_len] at this
          exact this
        rw [nV_get jlt] at hj
        have hj := Option.some.inj hj
        subst hj
        have posmem := Geo.getD_mem jlt
        have poslt := Geo.free_lt posmem
        show tSeq _ _ _ _ _
        generalize hpos : (Geo.free q.1 lf.length).getD j 0 = pos at posmem poslt
        refine q_asgN (R := Pl) (en_call (ea_cons (ev_var rfl) (ea_cons (leftk _ _ eH3 rfl rfl) (ea_cons (ev_var rfl) ea_nil))) (snCorn (hq2.ex eH3) (hf2.ex eH3) okq Wl.lt poslt shl)) fun pc cs H4 hpc e4 h4 hE4 => ?_
        have eH4 := eH3.trans e4
        match cs, hE4 with
        | [c1, c2, c3], ⟨k1, k2, k3, _⟩ =>
        have sk := tri_sk okq Wl.lt poslt
        have pcD : pc ≠ D := fun z => by rw [z, hacc3] at hpc; cases hpc
        refine q_asg (v := .int ((Geo.triPrice (Geo.cornersAt q.2 lf pos) : Nat) : Int)) (ev_cb (ea_cons (ev_call (ea_cons (ev_op (ev_var rfl) ev_c (rv_ixL (sq_of h4) (atI_nat (j := 0) rfl))) (ea_cons (ev_op (ev_var rfl) ev_c (rv_ixL (sq_of h4) (atI_nat (j := 1) rfl))) (ea_cons (ev_op (ev_var rfl) ev_c (rv_ixL (sq_of h4) (atI_nat (j := 2) rfl))) ea_nil))) (svBend k1 k2 k3 sk.1.sm sk.2.1.sm sk.2.2.sm)) ea_nil)
          (fun Hx ex Qx qx => ⟨_, rfl, by rw [abs_int]; exact qx Hx (Ex.refl Hx)⟩)) fun H5 e5 => ?_
        have eH5 := eH4.trans e5
        have hacc5 := e5 _ _ (e4 _ _ hacc3)
        obtain ⟨bf, rfl, hbf⟩ := id hf2
        have len3 := hE3.length
        have acl : acc3.length < 100000 := by
          have : acc3.length ≤ (Geo.cands L G).length + 12 := by
            rw [len3, List.length_append, List.length_map, List.length_take]
            have h1 : (upto i).length ≤ (Geo.cands L G).length := by
              show ((((L.zip G).zipIdx.take i).flatMap _).length ≤ _)
              unfold Geo.cands
              rw [← List.take_append_drop i (L.zip G).zipIdx, List.flatMap_append, List.length_append, List.take_append_drop]
              omega
            have h2 := free_len (r := q.1) shl
            omega
          have := cands_len M
          omega
        refine s_appU (K := K) (l := D) (xs := acc3) hacc5 (ev_var rfl) (eu_tup (ea_cons (ev_var rfl) (ea_cons (ev_var rfl) (ea_cons (ev_op (leftk _ _ eH5 rfl rfl) (ev_var rfl) (rv_ixL (sq_of (eH5 _ _ hbf)) (atI_nat (nV_get poslt)))) (ea_cons (ev_var rfl) ea_nil)))) (by show 4 ≤ 100000; decide)) acl fun pt H6 hpt e6 h6 => ?_
        have eH6 := eH5.trans e6
        have hacc6 := e6 _ _ hacc5
        have e36 : Ex H' H6 := (e4.trans e5).trans e6
        have up : ∀ a o, a ≠ D → H6 a = some o → (upd H6 D (.lst (acc3 ++ [.ref pt]))) a = some o := fun a o ne h => by rw [upd_ne ne]; exact h
        have ptD : pt ≠ D := fun z => by rw [z, hacc5] at hpt; cases hpt
        have ext : ExT H6 (upd H6 D (.lst (acc3 ++ [.ref pt]))) := ExT.upd hacc6
        refine ⟨up _ _ pD (e36 _ _ hp), pD, ⟨_, _, _, rfl⟩, Ex.mut eH6 hD, _, upd_same, ?_⟩
        have hjt : (Geo.free q.1 lf.length)[j]? = some pos := by
          rw [List.getElem?_eq_getElem jlt, ← hpos, List.getD_eq_getElem?_getD, List.getElem?_eq_getElem jlt]
          rfl
        rw [take_more hjt, List.map_append, ← List.append_assoc]
        refine Each.snoc ?_ ((hE3.mono fun v c r => (r.ex e36)).mono fun v c r => r.exD hacc6 up)
        exact ⟨pt, pc, _, rfl, up _ _ ptD h6, pcD, up _ _ pcD (e6 _ _ (e5 _ _ h4)), (((k1.ex (e5.trans e6)).exT ext)), (((k2.ex (e5.trans e6)).exT ext)), (((k3.ex (e5.trans e6)).exT ext)), trivial⟩
      · rintro p σ' H' ⟨hp, pD, ⟨x5, x6, x7, rfl⟩, eH3, acc3, hacc3, hE3⟩
        refine ⟨⟨_, _, _, _, _, rfl⟩, eH3, acc3, hacc3, ?_⟩
        rw [nV_len, List.take_length] at hE3
        rw [uptoMore i q lf hq1 hg1]
        exact hE3
    · rintro σ' H' ⟨⟨x3, x4, x5, x6, x7, rfl⟩, eH, acc, hacc, hE⟩
      have full : upto ls.length = Geo.cands L G := by
        show ((L.zip G).zipIdx.take ls.length).flatMap _ = _
        unfold Geo.cands
        rw [List.take_of_length_le (by rw [List.length_zipIdx, List.length_zip]; omega)]
      rw [full] at hE
      refine ⟨_, rfl, D, acc, _, CandAt D H', rfl, sq_of hacc, hE, fun v c r => r.in_.dp, fun p us ds hp hs hu hn => ?_⟩
      exact k p us ds _ (fresh_back eH hn) (eH.trans (Ex.new hn)) upd_same hp hs (hu.mono fun v c r => (r.ex (Ex.new hn)).in_)
end
end PL
namespace PL
open PySem PySem.Spec PyProof.Rows L2 Evl
open Geo (Seg pz PLine Cand Tri)
abbrev dCands (C : Addr) (P : Program) (w : World) (K : PySem.W.Frag) (mg : Str → Option Value) (base : Heap) : Prop := Dn P w K mg base 2 "candidates" ["lines", "left"] (spCands C)
/-! ### places_left -/
abbrev sPlaces : Stmt := top 43
def spPlaces (C : Addr) : Sp := fun vs H Q _ => ∃ (v f : V) (L : List PLine) (F : List (List Nat)), vs = [v, f] ∧ Ls (LineAt C) H v L ∧ Ls NatL H f F ∧ MapOk L F ∧ RetN Pl (Geo.placesLeft L F) H Q
theorem snPlaces {C : Addr} {H : Hp} {v f : V} {L : List PLine} {F : List (List Nat)} (h : Ls (LineAt C) H v L) (hf : Ls NatL H f F) (M : MapOk L F) : SpN (spPlaces C) [v, f] H Pl (Geo.placesLeft L F) := fun H1 e Q k E => ⟨v, f, L, F, rfl, exL e h, exN e hf, M, k⟩
theorem places_len {L : List PLine} {G : List (List Nat)} (M : MapOk L G) (i : Nat) : (((L.zip G).take i).flatMap fun z => z.2.map fun i => z.1.2.getD i pz).length ≤ 48 := by
  have h := flatMap_len (fun z : PLine × List Nat => z.2.map fun i => z.1.2.getD i pz) 12 ((L.zip G).take i) (fun z hz => by
    rw [List.length_map]
    exact M.short z.2 (List.of_mem_zip (List.mem_of_mem_take hz)).2)
  have : ((L.zip G).take i).length ≤ 4 := by
    have := M.few
    rw [List.length_take, List.length_zip]
    omega
  omega
section
variable {P : Program} {w : World} {K : PySem.W.Frag} {mg : Str → Option Value} {base : Heap} {C : Addr}
abbrev nPlaces : List Str := ["lines", "left", "found", "k", "line", "i"]
theorem scPlaces : FnScope nPlaces ["lines", "left"] (defScope sPlaces) := ⟨rfl, rfl, rfl, by decide +kernel, rfl, by decide +kernel, by decide +kernel⟩
theorem ok_places {f : Addr} {fd : FuncData} (F : Fun K "places_left" "places_left" sPlaces f fd) (B : Bi mg) (T : TL K mg C) : FnOk P w K mg base CX0 1 f fd ["lines", "left"] (spPlaces C) := by
  refine F.ok scPlaces (fun vs H Q E h => ?_) (fun cdv A outer s H vs Q E hr h => ?_)
  · obtain ⟨v, c, L, G, rfl, _⟩ := h
    rfl
  · obtain ⟨_, _, L, G, rfl, hL, hG, M, k⟩ := h
    obtain ⟨al, ls, rfl, hal, hel⟩ := id hL
    obtain ⟨ag, gs, rfl, hag, heg⟩ := id hG
    have lenl := hel.length
    have leng := heg.length
    have few := M.few
    refine ⟨_, pss_cons (ps_set (i := 2) scPlaces.nd rfl (Or.inl rfl) (pe_lst pa_nil))
      (pss_cons (ps_for PassesOwn.never rfl (pi_enum (by rfl) B.enumerate (pa_cons (pv 0) pa_nil)) (pg_tup rfl (pgs_cons (pg_name (i := 3) scPlaces.nd rfl (Or.inl rfl)) (pgs_cons (pg_name (i := 4) scPlaces.nd rfl (Or.inr rfl)) pgs_nil)))
        (pss_one (ps_expr (pe_bm PySem.F.plainAttrs_list PySem.F.slot_list_extend PySem.F.type_list_extend mt_extend (pv 2) (pa_cons
          (pe_lc (own := [("i", 5)]) (g := gName 5) (tt := tYes) (te := tOp (rIxL K) (tFld K (tVar 4) "points") (tVar 5)) rfl scPlaces.nd (pi_list (pe_ix ix_list (pv 1) (pv 3) (fun _ _ => rfl))) (blkOk_by (N := nPlaces) (sc := defScope sPlaces) (by decide +kernel))
            (fun _ _ _ _ _ => pg_name (i := 5) scPlaces.nd rfl (Or.inl rfl)) (fun _ _ _ _ _ => pts_nil) (fun _ _ _ _ _ => pe_ix ix_list (pe_fld (pv 4) rfl) (pv 5) (fun _ _ => rfl))) pa_nil)))))
      (pss_one (ps_ret (pv 2)))), ?_⟩
    refine q_asgL (el_lst ea_nil (by decide)) fun D H1 hD e1 d1 => ?_
    let upto : Nat → List Pt := fun k => ((L.zip G).take k).flatMap fun z => z.2.map fun i => z.1.2.getD i pz
    refine ⟨_, rfl, al, ls, rfl, sq_of (e1 _ _ hal), for_it (walk_enum (K := K) (a := al) (xs := ls)) (fun i σ' H' => (∃ x3 x4 x5, σ' = [some (.ref al), some (.ref ag), some (.ref D), x3, x4, x5]) ∧ Ex H H' ∧ ∃ acc, H' D = some (.lst acc) ∧ Each (Pl H') acc (upto i))
      ⟨⟨none, none, none, rfl⟩, e1, [], d1, trivial⟩ (fun i σ' H' _ p => sq_of (p.2.1 _ _ hal)) ?_ ?_⟩
    · rintro i x σ' H' H'' hi ⟨⟨x3, x4, x5, rfl⟩, eH, acc, hacc, hE⟩ ⟨Tt, vi, vl, rfl, hT, rfl, h4, h5⟩
      have h4 : V.int (i : Nat) = vi := Option.some.inj h4
      subst h4
      refine ⟨Tt, _, rfl, st_of upd_same, rfl, _, _, rfl, _, _, rfl, rfl, ?_⟩
      obtain ⟨q, hq1, hq2⟩ := hel.get h5
      have hiG : i < G.length := by have := M.wf.len; omega
      have hg1 : G[i]? = some G[i] := List.getElem?_eq_getElem hiG
      obtain ⟨vf, hf1, hf2⟩ := heg.get' hg1
      generalize G[i] = lf at hg1 hf2
      have Wl := M.wf.each i q lf hq1 hg1
      have shl := M.short lf (List.mem_of_getElem? hg1)
      have eT : Ex H' (upd H' Tt (.tup [.int (i : Nat), vl])) := Ex.new hT
      have e2 : Ex H (upd H' Tt (.tup [.int (i : Nat), vl])) := eH.trans eT
      have d2 : (upd H' Tt (.tup [.int (i : Nat), vl])) D = some (.lst acc) := eT _ _ hacc
      have hE2 : Each (Pl (upd H' Tt (.tup [.int (i : Nat), vl]))) acc (upto i) := hE.mono fun v c r => r.ex eT
      generalize (upd H' Tt (.tup [.int (i : Nat), vl])) = H2 at e2 d2 hE2
      obtain ⟨a, dx, l, rfl, ha, ⟨_, pvs, eq, hpl, hep⟩⟩ := id hq2
      cases eq
      obtain ⟨b, rfl, hb⟩ := id hf2
      have hvl : ∀ (j : Nat), j < lf.length → ∃ u, pvs[lf.getD j 0]? = some u ∧ pvs.getD (lf.getD j 0) .non = u ∧ Pl H u (q.2.getD (lf.getD j 0) pz) := fun j hj => by
        have h1 := Wl.lt _ (Geo.getD_mem hj)
        obtain ⟨u, u1, u2⟩ := hep.get' (List.getElem?_eq_getElem h1)
        refine ⟨u, u1, by rw [List.getD_eq_getElem?_getD, u1]; rfl, ?_⟩
        rw [List.getD_eq_getElem?_getD (l := q.2), List.getElem?_eq_getElem h1]
        exact u2
      have len := hE2.length
      have plen := places_len M i
      have ulen : (upto i).length ≤ 48 := plen
      show tDrop _ _ _ _
      refine ⟨_, rfl, .inl ⟨rfl, _, sq_of d2⟩, ?_⟩
      refine el_lcL (K := K) (xs := nV lf) (fun _ => true) (fun j => pvs.getD (lf.getD j 0) .non) (ev_op (ev_var rfl) (ev_var rfl) (rv_ixL (sq_of (e2 _ _ hag)) (atI_nat hf1))) (sq_of (e2 _ _ hb)) (by rw [nV_len]; omega) (fun x => rfl) (fun j x H3 e3 hj => et_yes) (fun j x H3 e3 hj _ => ?_) H2 (Ex.refl H2) _ fun p H3 hp e3 h3 => ?_
      · have jlt : j < lf.length := by
          have := (List.getElem?_eq_some_iff.mp hj).1
          rw [nV_len] at this
          exact this
        rw [nV_get jlt] at hj
        have hj := Option.some.inj hj
        subst hj
        obtain ⟨u, u1, u2, u3⟩ := hvl j jlt
        rw [u2]
        have e23 := e2.trans e3
        exact ev_op (ev_fld (ev_var rfl) (e23 _ _ ha) T.cl T.nP (lF_points _ _)) (ev_var rfl) (rv_ixL (sq_of (e23 _ _ hpl)) (atI_nat u1))
      · have d3 := e3 _ _ d2
        have e23 := e2.trans e3
        have glen : (given (nV lf).length (fun _ => true) fun j => pvs.getD (lf.getD j 0) .non).length ≤ 12 := by
          have := given_len (nV lf).length (fun _ => true) fun j => pvs.getD (lf.getD j 0) .non
          rw [nV_len] at this ⊢
          omega
        refine ⟨D, p, acc, _, rfl, rfl, d3, h3, sz_of (by omega), ⟨_, _, _, rfl⟩, Ex.mut e23 hD, _, upd_same, ?_⟩
        have hz : (L.zip G)[i]? = some (q, lf) := by
          rw [List.getElem?_zip_eq_some]
          exact ⟨hq1, hg1⟩
        have um : upto (i + 1) = upto i ++ lf.map fun i => q.2.getD i pz := by
          show ((L.zip G).take (i + 1)).flatMap _ = _
          rw [take_more hz, List.flatMap_append]
          simp only [List.flatMap_cons, List.flatMap_nil, List.append_nil]
          rfl
        rw [um]
        have ext : ExT H3 (upd H3 D (.lst (acc ++ given (nV lf).length (fun _ => true) fun j => pvs.getD (lf.getD j 0) .non))) := ExT.upd d3
        refine Each.append (hE2.mono fun v c r => (r.ex e3).exT ext) (Each.of_get ?_ fun j v x hv hx => ?_)
        · unfold given
          rw [List.filter_eq_self.mpr (fun _ _ => rfl), List.length_map, List.length_range, nV_len, List.length_map]
        · have jlt : j < lf.length := by
            have := (List.getElem?_eq_some_iff.mp hx).1
            rw [List.length_map] at this
            exact this
          unfold given at hv
          rw [List.filter_eq_self.mpr (fun _ _ => rfl), List.getElem?_map, List.getElem?_eq_getElem (by rw [List.length_range, nV_len]; exact jlt), List.getElem_range] at hv
          have hv := Option.some.inj hv
          obtain ⟨u, u1, u2, u3⟩ := hvl j jlt
          rw [List.getElem?_map, List.getElem?_eq_getElem jlt] at hx
          have hx := Option.some.inj hx
          have gd : lf.getD j 0 = lf[j] := by rw [List.getD_eq_getElem?_getD, List.getElem?_eq_getElem jlt]; rfl
          have hv : pvs.getD (lf.getD j 0) .non = v := hv
          have hx : q.2.getD lf[j] pz = x := hx
          rw [u2] at hv
          rw [← gd] at hx
          rw [← hv, ← hx]
          exact (u3.ex e23).exT ext
    · rintro σ' H' ⟨⟨x3, x4, x5, rfl⟩, eH, acc, hacc, hE⟩
      have full : upto ls.length = Geo.placesLeft L G := by
        show ((L.zip G).take ls.length).flatMap _ = _
        unfold Geo.placesLeft
        rw [List.take_of_length_le (by rw [List.length_zip]; omega)]
      rw [full] at hE
      exact s_ret (ev_var rfl) fun H5 e5 => k D acc H5 hD (eH.trans e5) (e5 _ _ hacc) (hE.mono fun v x r => r.ex e5)
end
abbrev dPlaces (C : Addr) (P : Program) (w : World) (K : PySem.W.Frag) (mg : Str → Option Value) (base : Heap) : Prop := Dn P w K mg base 1 "places_left" ["lines", "left"] (spPlaces C)
/-! ### is_clear -/
theorem hu65 {A : Around} {k : Nat} (hr : Room k A) : A.units + 65 < cLine := by
  have := hr.un
  omega
abbrev sClear : Stmt := top 44
def spClear : Sp := fun vs H Q _ => ∃ (c v : V) (t : Tri) (ps : List Pt), vs = [c, v] ∧ Ls Pl H c (triL t) ∧ Ls Pl H v ps ∧ (Sk t.1 ∧ Sk t.2.1 ∧ Sk t.2.2) ∧ (∀ p ∈ ps, Sk p) ∧ RetV (.bl (Geo.isClear t ps)) H Q
theorem svClear {H : Hp} {c v : V} {t : Tri} {ps : List Pt} (h : Ls Pl H c (triL t)) (hv : Ls Pl H v ps) (st : Sk t.1 ∧ Sk t.2.1 ∧ Sk t.2.2) (sp : ∀ p ∈ ps, Sk p) : SpV spClear [c, v] H (.bl (Geo.isClear t ps)) := fun H1 e Q k E => ⟨c, v, t, ps, rfl, exP e h, exP e hv, st, sp, k⟩
theorem plD_eqv (p q : Pt) : PyData.eqv (plD p) (plD q) = (q == p) := by
  have e : PyData.eqv (plD p) (plD q) = ((p.1 == q.1) && ((p.2 == q.2) && true)) := by simp only [plD, PyData.eqv, PyData.eqvAll]
  rw [e, Bool.and_true, Bool.eq_iff_iff, Bool.and_eq_true, beq_iff_eq, beq_iff_eq, beq_iff_eq]
  constructor
  · rintro ⟨h1, h2⟩
    exact Prod.ext h1.symm h2.symm
  · rintro rfl
    exact ⟨rfl, rfl⟩
theorem plD_shaped (p : Pt) : SeqAt.shaped (plD p) = true := by
  show ((plD p).canLay0 && decide ((plD p).depth ≤ 64)) = true
  rw [Bool.and_eq_true]
  exact ⟨by simp [plD, PyData.canLay0, PyData.canLayAll0], decide_eq_true (by simp [plD, PyData.depth, PyData.depthAll])⟩
theorem triD_shaped (t : Tri) : SeqAt.shaped (triD t) = true := by
  show ((triD t).canLay0 && decide ((triD t).depth ≤ 64)) = true
  rw [Bool.and_eq_true]
  exact ⟨by simp [triD, plD, PyData.canLay0, PyData.canLayAll0], decide_eq_true (by simp [triD, plD, PyData.depth, PyData.depthAll])⟩
theorem Ls.triD {K : PySem.W.Frag} {H : Hp} {c : V} {t : Tri} (h : Ls Pl H c (triL t)) : Dp K H c (triD t) := by
  obtain ⟨a, vs, rfl, h1, h2⟩ := h
  match vs, h2 with
  | [x, y, z], ⟨a1, a2, a3, _⟩ => exact .lst (sq_of h1) (.cons a1.dp (.cons a2.dp (.cons a3.dp .nil)))
section
variable {P : Program} {w : World} {K : PySem.W.Frag} {mg : Str → Option Value} {base : Heap}
theorem rv_notIn {H : Hp} {c v : V} {t : Tri} {p : Pt} (hv : Pl H v p) (h : Ls Pl H c (triL t)) : RV (rNotInD K) v c H (.bl (!(p == t.1 || (p == t.2.1 || p == t.2.2)))) := fun H1 e Q q =>
  ⟨plD p, [plD t.1, plD t.2.1, plD t.2.2], (hv.ex e).dp, (exP e h).triD, plD_shaped p, triD_shaped t, by
    have : ([plD t.1, plD t.2.1, plD t.2.2].any fun z => PyData.eqv z (plD p)) = (p == t.1 || (p == t.2.1 || p == t.2.2)) := by
      simp only [List.any_cons, List.any_nil, plD_eqv, Bool.or_false]
    rw [this]
    exact q H1 (Ex.refl H1)⟩
theorem scClear : FnScope ["corners", "places", "place"] ["corners", "places"] (defScope sClear) := ⟨rfl, rfl, rfl, by decide +kernel, rfl, by decide +kernel, by decide +kernel⟩
abbrev dTri (P : Program) (w : World) (K : PySem.W.Frag) (mg : Str → Option Value) (base : Heap) : Prop := Dn P w K mg base 2 "in_triangle" ["place", "corners"] spTri
theorem ok_clear {f : Addr} {fd : FuncData} (F : Fun K "is_clear" "is_clear" sClear f fd) (DT : dTri P w K mg base) : FnOk P w K mg base CX0 3 f fd ["corners", "places"] spClear := by
  refine F.ok scClear (fun vs H Q E h => ?_) (fun cdv A outer s H vs Q E hr h => ?_)
  · obtain ⟨c, v, t, ps, rfl, _⟩ := h
    rfl
  · obtain ⟨c, _, t, ps, rfl, hc, hv, st, sp, k⟩ := h
    obtain ⟨a, vs, rfl, ha, he⟩ := id hv
    have len := he.length
    refine ⟨_, pss_cons (ps_for PassesOwn.never rfl (pi_list (pv 1)) (pg_name (i := 2) scClear.nd rfl (Or.inl rfl))
        (pss_one (ps_if (PW.pt (pw_and (pt_cmpR (op_notInD (hu65 hr)) (pv 2) (pv 0) (by rfl)) (pw_and1 (pt_val (pe_d DT hr (by decide) rfl (pa_cons (pv 2) (pa_cons (pv 0) pa_nil))))))) (pss_one (ps_ret pe_bl)) pss_nil)))
      (pss_one (ps_ret pe_bl)), ?_⟩
    have bad : Pt → Bool := fun p => !(p == t.1 || (p == t.2.1 || p == t.2.2)) && Geo.inTri p t.1 t.2.1 t.2.2
    refine q_forLn (K := K) (xs := vs) (ev_var rfl) (sq_of ha) (fun m σ' H' => (∃ x, σ' = [some c, some (.ref a), x]) ∧ Ex H H' ∧ ∀ i p, i < m → ps[i]? = some p → (!(p == t.1 || (p == t.2.1 || p == t.2.2)) && Geo.inTri p t.1 t.2.1 t.2.2) = false)
      (fun H1 e1 => ⟨⟨none, rfl⟩, e1, fun i p h => by omega⟩) (fun i σ' H' _ z => sq_of (z.2.1 _ _ ha)) ?_ ?_
    · rintro i v σ' H' hi ⟨⟨x, rfl⟩, eH, hno⟩
      obtain ⟨p, hp1, hp2⟩ := he.get hi
      have skp := sp p (List.mem_of_getElem? hp1)
      refine s_when (et_and (et_test (ev_op (ev_var rfl) (ev_var rfl) (rv_notIn (hp2.ex eH) (exP eH hc)))) fun _ => et_B (ev_call (ea_cons (ev_var rfl) (ea_cons (ev_var rfl) ea_nil)) (svTri (hp2.ex eH) (exP eH hc) skp.sm st.1.sm st.2.1.sm st.2.2.sm))) (fun hb H4 e4 => ?_) (fun hb H4 e4 => ?_)
      · refine s_ret ev_c fun H5 e5 => ?_
        have : Geo.isClear t ps = false := by
          unfold Geo.isClear
          rw [List.all_eq_false]
          refine ⟨p, List.mem_of_getElem? hp1, ?_⟩
          rw [hb]
          decide
        rw [this] at k
        exact k H5 ((eH.trans e4).trans e5)
      · refine ⟨⟨_, rfl⟩, eH.trans e4, fun j p' h1 h2 => ?_⟩
        by_cases z : j = i
        · rw [z, hp1] at h2
          rw [← Option.some.inj h2]
          exact hb
        · exact hno j p' (by omega) h2
    · rintro σ' H' ⟨⟨x, rfl⟩, eH, hno⟩
      refine s_ret ev_c fun H5 e5 => ?_
      have : Geo.isClear t ps = true := by
        unfold Geo.isClear
        rw [List.all_eq_true]
        intro p hp
        obtain ⟨i, hi⟩ := List.getElem?_of_mem hp
        rw [hno i p (by have := (List.getElem?_eq_some_iff.mp hi).1; omega) hi]
        rfl
      rw [this] at k
      exact k H5 (eH.trans e5)
end
abbrev dClear (P : Program) (w : World) (K : PySem.W.Frag) (mg : Str → Option Value) (base : Heap) : Prop := Dn P w K mg base 3 "is_clear" ["corners", "places"] spClear
end PL
namespace PL
open PySem PySem.Spec PyProof.Rows L2 Evl
open Geo (Seg pz PLine Cand Tri)
/-! ### next_to_go -/
abbrev sNext : Stmt := top 45
/-- the next that goes, as it is handed back: its price, its line, its number -/
def GoneAt (H : Hp) (v : V) (c k n : Nat) : Prop := ∃ b l, v = .ref b ∧ H b = some (.tup [.int (c : Int), .int (k : Int), .int (n : Int), l])
theorem GoneAt.ex {H H' : Hp} (e : Ex H H') {v : V} {c k n : Nat} (h : GoneAt H v c k n) : GoneAt H' v c k n := by
  obtain ⟨b, l, h1, h2⟩ := h
  exact ⟨b, l, h1, e _ _ h2⟩
theorem GoneAt.exT {H H' : Hp} (e : ExT H H') {v : V} {c k n : Nat} (h : GoneAt H v c k n) : GoneAt H' v c k n := by
  obtain ⟨b, l, h1, h2⟩ := h
  exact ⟨b, l, h1, e _ _ h2⟩
def RetX (L : List PLine) (F : List (List Nat)) (H : Hp) (Q : VK) : Prop := (Mm01.next (Geo.lsOf L F) = none → ∀ H2, Ex H H2 → Q .non H2) ∧
  ∀ (c k i n : Nat) (q : PLine) (lf : List Nat) (v : V) H2, L[k]? = some q → F[k]? = some lf → i < lf.length → lf.getD i 0 = n → Mm01.next (Geo.lsOf L F) = some (c, k, i) → Ex H H2 → GoneAt H2 v c k n → Q v H2
def spNext (C : Addr) : Sp := fun vs H Q _ => ∃ (v f : V) (L : List PLine) (F : List (List Nat)), vs = [v, f] ∧ Ls (LineAt C) H v L ∧ Ls NatL H f F ∧ MapOk L F ∧ RetX L F H Q
theorem find_at {α : Type} {p : α → Bool} : ∀ {l : List α} {i : Nat} {x : α}, l[i]? = some x → p x = true → (∀ j y, j < i → l[j]? = some y → p y = false) → l.find? p = some x
  | [], i, x, h, _, _ => by simp at h
  | a :: l, 0, x, h, hp, _ => by
    have e : a = x := by simpa using h
    subst e
    rw [List.find?_cons, hp]
  | a :: l, i + 1, x, h, hp, hno => by
    rw [List.find?_cons, hno 0 a (by omega) rfl]
    exact find_at (i := i) (by simpa using h) hp fun j y hj hy => hno (j + 1) y (by omega) (by simpa using hy)
theorem find_none {α : Type} {p : α → Bool} {l : List α} (h : ∀ (j : Nat) (y : α), l[j]? = some y → p y = false) : l.find? p = none := by
  rw [List.find?_eq_none]
  intro x hx
  obtain ⟨i, hi⟩ := List.getElem?_of_mem hx
  rw [h i x hi]
  decide
theorem places_sk {L : List PLine} {F : List (List Nat)} (M : MapOk L F) : ∀ p ∈ Geo.placesLeft L F, Sk p := by
  intro p hp
  unfold Geo.placesLeft at hp
  rw [List.mem_flatMap] at hp
  obtain ⟨⟨q, lf⟩, hz, hp⟩ := hp
  rw [List.mem_map] at hp
  obtain ⟨i, hi, rfl⟩ := hp
  obtain ⟨k, hk⟩ := List.getElem?_of_mem hz
  rw [List.getElem?_zip_eq_some] at hk
  exact getD_sk (M.ok q (List.mem_of_getElem? hk.1)) ((M.wf.each k q lf hk.1 hk.2).lt i hi)
theorem cand_sk {L : List PLine} {F : List (List Nat)} (M : MapOk L F) {c : Cand} (h : c ∈ Geo.cands L F) : Sk c.tri.1 ∧ Sk c.tri.2.1 ∧ Sk c.tri.2.2 := by
  obtain ⟨k, q, lf, pos, h1, h2, h3, rfl⟩ := Geo.mem_cands.mp h
  exact tri_sk (M.ok q (List.mem_of_getElem? h1)) (M.wf.each k q lf h1 h2).lt (Geo.free_lt h3)
/-- for c in candidates(..) -/
theorem q_forC {C : Addr} {K : PySem.W.Frag} {σ : L2.St} {H : Hp} {ta : TA} {j : Nat} {tz tu : TS} {D : Ends} {v f : V} {L : List PLine} {F : List (List Nat)} (h : EvA ta σ H [v, f]) (hL : Ls (LineAt C) H v L) (hG : Ls NatL H f F) (M : MapOk L F)
    (Pv : Hp → List Cand → Nat → L2.St → Hp → Prop) (h0 : ∀ H3 ds, Ex H H3 → Pv H3 ds 0 σ H3) (hx : ∀ H3 ds i σ' H', Pv H3 ds i σ' H' → Ex H3 H')
    (hs : ∀ H3 ds, Ex H H3 → ds.Perm (Geo.cands L F) → ds.Pairwise Geo.keyLe → ∀ (i : Nat) (c : Cand) (v : V) σ' H', ds[i]? = some c → CandIn H' v c → Pv H3 ds i σ' H' → tu { D with nx := Pv H3 ds (i + 1), ct := Pv H3 ds (i + 1), bk := tz D } (σ'.set j (some v)) H')
    (hd : ∀ H3 ds, Ex H H3 → ds.Perm (Geo.cands L F) → ds.Pairwise Geo.keyLe → ∀ σ' H', Pv H3 ds ds.length σ' H' → tz D σ' H') : tSeq (tFor (iList K (tCall (spCands C) [] E0 ta)) (gName j) tu) tz D σ H :=
  h H (Ex.refl H) _ fun H2 e2 => ⟨v, f, L, F, rfl, exL e2 hL, exN e2 hG, M, fun p us ds H3 hp e3 h3 perm srt hE => ⟨p, rfl, ⟨us, sq_of h3⟩, for_list (xs := us) (Pv H3 ds) (h0 H3 ds (e2.trans e3)) (fun i σ' H' _ z => sq_of ((hx _ _ _ _ _ z) _ _ h3)) (fun i v σ' H' hi q => by
    obtain ⟨c, hc1, hc2⟩ := hE.get hi
    exact hs H3 ds (e2.trans e3) perm srt i c v σ' H' hc1 (CandIn.ex (hx _ _ _ _ _ q) hc2) q) (fun σ' H' q => by
    rw [hE.length] at q
    exact hd H3 ds (e2.trans e3) perm srt σ' H' q)⟩⟩
section
variable {P : Program} {w : World} {K : PySem.W.Frag} {mg : Str → Option Value} {base : Heap} {C : Addr}
theorem scNext : FnScope ["lines", "left", "places", "candidate"] ["lines", "left"] (defScope sNext) := ⟨rfl, rfl, rfl, by decide +kernel, rfl, by decide +kernel, by decide +kernel⟩
theorem ok_next {f : Addr} {fd : FuncData} (F : Fun K "next_to_go" "next_to_go" sNext f fd) (DP : dPlaces C P w K mg base) (DC : dCands C P w K mg base) (DL : dClear P w K mg base) : FnOk P w K mg base CX0 4 f fd ["lines", "left"] (spNext C) := by
  refine F.ok scNext (fun vs H Q E h => ?_) (fun cdv A outer s H vs Q E hr h => ?_)
  · obtain ⟨v, c, L, G, rfl, _⟩ := h
    rfl
  · obtain ⟨v, g, L, G, rfl, hL, hG, M, kN, kS⟩ := h
    refine ⟨_, pss_cons (ps_set (i := 2) scNext.nd rfl (Or.inl rfl) (pe_d DP hr (by decide) rfl (pa_cons (pv 0) (pa_cons (pv 1) pa_nil))))
      (pss_cons (ps_for PassesOwn.never rfl (pi_list (pe_d DC hr (by decide) rfl (pa_cons (pv 0) (pa_cons (pv 1) pa_nil)))) (pg_name (i := 3) scNext.nd rfl (Or.inl rfl))
        (pss_one (ps_if (pt_val (pe_d DL hr (by decide) rfl (pa_cons (pe_ix ix_tup (pv 3) pe_int (fun _ _ => rfl)) (pa_cons (pv 2) pa_nil)))) (pss_one (ps_ret (pv 3))) pss_nil)))
      (pss_one (ps_ret pe_non))), ?_⟩
    refine q_asgN (R := Pl) (en_call (ea_cons (ev_var rfl) (ea_cons (ev_var rfl) ea_nil)) (snPlaces hL hG M)) fun ap pvs H1 hap e1 h1 hE1 => ?_
    have hpl : Ls Pl H1 (.ref ap) (Geo.placesLeft L G) := ⟨ap, pvs, rfl, h1, hE1⟩
    refine q_forC (ea_cons (ev_var rfl) (ea_cons (ev_var rfl) ea_nil)) (exL e1 hL) (exN e1 hG) M
      (fun H3 ds m σ' H' => (∃ x, σ' = [some v, some g, some (.ref ap), x]) ∧ Ex H3 H' ∧ ∀ (i : Nat) (c : Cand), i < m → ds[i]? = some c → Geo.isClear c.tri (Geo.placesLeft L G) = false)
      (fun H3 ds e3 => ⟨⟨none, rfl⟩, Ex.refl H3, fun i c h => by omega⟩) (fun H3 ds i σ' H' z => z.2.1) ?_ ?_
    · rintro H3 ds e3 perm srt i c x σ' H' hc1 hc3 ⟨⟨y, rfl⟩, eH, hno⟩
      have e03 := e1.trans e3
      obtain ⟨b, l, vs, rfl, hb, hl, hv⟩ := id hc3
      have cm : c ∈ Geo.cands L G := perm.mem_iff.mp (List.mem_of_getElem? hc1)
      refine s_when (D := { nx := _, rt := Q, ct := _, bk := _ }) (et_B (ev_call (ea_cons (ev_op (ev_var rfl) ev_c (rv_ixT (st_of hb) (atI_nat (j := 3) rfl))) (ea_cons (ev_var rfl) ea_nil)) (svClear (t := c.tri) ⟨l, vs, rfl, hl, hv⟩ (exP (e3.trans eH) hpl) (cand_sk M cm) (places_sk M)))) (fun hb2 H4 e4 => ?_) (fun hb2 H4 e4 => ?_)
      · refine s_ret (ev_var rfl) fun H5 e5 => ?_
        have hf : ds.find? (fun c => Geo.isClear c.tri (Geo.placesLeft L G)) = some c := find_at hc1 hb2 fun j y hj hy => hno j y hj hy
        obtain ⟨q, lf, i', a1, a2, a3, a4, a5⟩ := Geo.next_sorted_some M.wf perm srt hf
        exact kS c.price c.k i' c.num q lf (.ref b) H5 a1 a2 a3 a4 a5 (((e03.trans eH).trans e4).trans e5) ⟨b, _, rfl, e5 _ _ (e4 _ _ hb)⟩
      · refine ⟨⟨_, rfl⟩, eH.trans e4, fun j c' h1 h2 => ?_⟩
        by_cases z : j = i
        · rw [z, hc1] at h2
          rw [← Option.some.inj h2]
          exact hb2
        · exact hno j c' (by omega) h2
    · rintro H3 ds e3 perm srt σ' H' ⟨⟨y, rfl⟩, eH, hno⟩
      have e03 := e1.trans e3
      refine s_ret (D := { nx := _, rt := Q }) ev_c fun H5 e5 => ?_
      have hf : ds.find? (fun c => Geo.isClear c.tri (Geo.placesLeft L G)) = none := find_none fun j y hy => hno j y (by have := (List.getElem?_eq_some_iff.mp hy).1; omega) hy
      exact kN (Geo.next_sorted_none M.wf perm hf) H5 ((e03.trans eH).trans e5)
end
abbrev dNext (C : Addr) (P : Program) (w : World) (K : PySem.W.Frag) (mg : Str → Option Value) (base : Heap) : Prop := Dn P w K mg base 4 "next_to_go" ["lines", "left"] (spNext C)
end PL
namespace PL
open PySem PySem.Spec PyProof.Rows L2 Evl
open Geo (Seg pz PLine Cand Tri Off)
/-! ### goings_of -/
abbrev sGo : Stmt := top 46
/-- a going: line, point, worth -/
def GoAt (H : Hp) (v : V) (x : Off) : Prop := ∃ a, v = .ref a ∧ H a = some (.tup [.int (x.1 : Int), .int (x.2.1 : Int), .int (x.2.2 : Int)])
theorem GoAt.exT {H H' : Hp} (e : ExT H H') {v : V} {x : Off} (h : GoAt H v x) : GoAt H' v x := by
  obtain ⟨a, h1, h2⟩ := h
  exact ⟨a, h1, e _ _ h2⟩
theorem GoAt.ex {H H' : Hp} (e : Ex H H') {v : V} {x : Off} (h : GoAt H v x) : GoAt H' v x := h.exT (Ex.t e)
/-- the lists of what is left: each its own, all new since H0 -/
structure LeftAt (H0 H : Hp) (ag : Addr) (bs : List Addr) (F : List (List Nat)) : Prop where
  hag : H ag = some (.lst (bs.map V.ref))
  nd : bs.Nodup
  notg : ag ∉ bs
  new : H0 ag = none ∧ ∀ b ∈ bs, H0 b = none
  len : bs.length = F.length
  each : ∀ (k : Nat) (b : Addr) (lf : List Nat), bs[k]? = some b → F[k]? = some lf → H b = some (.lst (nV lf))
theorem LeftAt.ex {H0 H H' : Hp} {ag : Addr} {bs : List Addr} {F : List (List Nat)} (e : Ex H H') (h : LeftAt H0 H ag bs F) : LeftAt H0 H' ag bs F :=
  ⟨e _ _ h.hag, h.nd, h.notg, h.new, h.len, fun k b lf h1 h2 => e _ _ (h.each k b lf h1 h2)⟩
theorem LeftAt.ls {H0 H : Hp} {ag : Addr} {bs : List Addr} {F : List (List Nat)} (h : LeftAt H0 H ag bs F) : Ls NatL H (.ref ag) F := by
  refine ⟨ag, _, rfl, h.hag, Each.of_get (by rw [List.length_map, h.len]) fun i v x hv hx => ?_⟩
  rw [List.getElem?_map] at hv
  cases e : bs[i]? with
  | none => rw [e] at hv; cases hv
  | some b =>
    rw [e] at hv
    have hv := Option.some.inj hv
    exact ⟨b, hv.symm, h.each i b x e hx⟩
/-- another list written -/
theorem LeftAt.other {H0 H : Hp} {ag d : Addr} {bs : List Addr} {F : List (List Nat)} {o : HO} (h : LeftAt H0 H ag bs F) (h1 : d ≠ ag) (h2 : d ∉ bs) : LeftAt H0 (upd H d o) ag bs F :=
  ⟨by rw [upd_ne h1.symm]; exact h.hag, h.nd, h.notg, h.new, h.len, fun k b lf a1 a2 => by
    rw [upd_ne (fun z : b = d => h2 (by rw [← z]; exact List.mem_of_getElem? a1))]
    exact h.each k b lf a1 a2⟩
/-- one of them written -/
theorem LeftAt.one {H0 H : Hp} {ag : Addr} {bs : List Addr} {F : List (List Nat)} (h : LeftAt H0 H ag bs F) {k : Nat} {b : Addr} (hb : bs[k]? = some b) (lf : List Nat) : LeftAt H0 (upd H b (.lst (nV lf))) ag bs (F.set k lf) := by
  have bm := List.mem_of_getElem? hb
  have kl := (List.getElem?_eq_some_iff.mp hb).1
  refine ⟨by rw [upd_ne (fun z : ag = b => h.notg (by rw [z]; exact bm))]; exact h.hag, h.nd, h.notg, h.new, by rw [List.length_set]; exact h.len, fun k' b' lf' a1 a2 => ?_⟩
  rw [List.getElem?_set] at a2
  by_cases z : k = k'
  · subst z
    rw [hb] at a1
    have a1 := Option.some.inj a1
    rw [if_pos rfl, if_pos (by rw [← h.len]; exact kl)] at a2
    rw [← a1, ← Option.some.inj a2]
    exact upd_same
  · rw [if_neg z] at a2
    have ne : b' ≠ b := fun e => by
      subst e
      exact z (nd_ix h.nd hb a1)
    rw [upd_ne ne]
    exact h.each k' b' lf' a1 a2
theorem nV_eq (l : List Nat) : nV l = (l.map fun (i : Nat) => (i : Int)).map V.int := by
  unfold nV
  rw [List.map_map]
  rfl
section
variable {C : Addr} {σ : L2.St} {H : Hp} {ta : TA} {tz : TS} {D : Ends} {j : Nat} {v f : V} {L : List PLine} {F : List (List Nat)}
theorem s_asgX (h : EvA ta σ H [v, f]) (hL : Ls (LineAt C) H v L) (hG : Ls NatL H f F) (M : MapOk L F) (kN : Mm01.next (Geo.lsOf L F) = none → ∀ H2, Ex H H2 → D.nx (σ.set j (some .non)) H2)
    (kS : ∀ (c k i n : Nat) (q : PLine) (lf : List Nat) (v : V) H2, L[k]? = some q → F[k]? = some lf → i < lf.length → lf.getD i 0 = n → Mm01.next (Geo.lsOf L F) = some (c, k, i) → Ex H H2 → GoneAt H2 v c k n → D.nx (σ.set j (some v)) H2) :
    tAsg (tCall (spNext C) [] E0 ta) (gName j) D σ H := h H (Ex.refl H) _ fun H2 e2 => ⟨v, f, L, F, rfl, exL e2 hL, exN e2 hG, M, fun hn H3 e3 => kN hn H3 (e2.trans e3), fun c k i n q lf u H3 a1 a2 a3 a4 a5 e3 a6 => kS c k i n q lf u H3 a1 a2 a3 a4 a5 (e2.trans e3) a6⟩
theorem q_asgX (h : EvA ta σ H [v, f]) (hL : Ls (LineAt C) H v L) (hG : Ls NatL H f F) (M : MapOk L F) (kN : Mm01.next (Geo.lsOf L F) = none → ∀ H2, Ex H H2 → tz D (σ.set j (some .non)) H2)
    (kS : ∀ (c k i n : Nat) (q : PLine) (lf : List Nat) (v : V) H2, L[k]? = some q → F[k]? = some lf → i < lf.length → lf.getD i 0 = n → Mm01.next (Geo.lsOf L F) = some (c, k, i) → Ex H H2 → GoneAt H2 v c k n → tz D (σ.set j (some v)) H2) :
    tSeq (tAsg (tCall (spNext C) [] E0 ta) (gName j)) tz D σ H := s_asgX (D := { D with nx := tz D }) h hL hG M kN kS
end
theorem rv_notN {H : Hp} {x : V} : RV (fun x y H Q => y = V.non ∧ Q (.bl (!decide (x = .non))) H) x .non H (.bl (!decide (x = .non))) := fun H1 _ _ q => ⟨rfl, q H1 (Ex.refl H1)⟩
theorem sum_le (l : List Nat) (n : Nat) (h : ∀ x ∈ l, x ≤ n) : l.sum ≤ n * l.length := by
  induction l with
  | nil => simp
  | cons a r ih =>
    have h1 := h a (by simp)
    have h2 := ih fun x hx => h x (List.mem_cons_of_mem _ hx)
    rw [List.sum_cons, List.length_cons, Nat.mul_add]
    omega
theorem count_le {L : List PLine} {F : List (List Nat)} (M : MapOk L F) : Mm01.count (Geo.lsOf L F) ≤ 48 := by
  rw [Geo.count_eq]
  have h := sum_le ((Geo.lsOf L F).map fun l => l.points.length) 12 (fun x hx => by
    rw [List.mem_map] at hx
    obtain ⟨l, hl, rfl⟩ := hx
    obtain ⟨k, hk⟩ := List.getElem?_of_mem hl
    unfold Geo.lsOf at hk
    rw [List.getElem?_zipWith] at hk
    cases h1 : L[k]? with
    | none => rw [h1] at hk; cases hk
    | some q =>
      cases h2 : F[k]? with
      | none => rw [h1, h2] at hk; cases hk
      | some lf =>
        rw [h1, h2] at hk
        have hk := Option.some.inj hk
        rw [← hk]
        show (lf.map _).length ≤ 12
        rw [List.length_map]
        exact M.short lf (List.mem_of_getElem? h2))
  rw [List.length_map, Geo.lsOf_length M.wf.len] at h
  have := M.few
  omega
theorem MapOk.set {L : List PLine} {F : List (List Nat)} (M : MapOk L F) {k i : Nat} {q : PLine} {lf : List Nat} (h1 : L[k]? = some q) (h2 : F[k]? = some lf) : MapOk L (F.set k (lf.eraseIdx i)) := by
  refine ⟨Geo.Wf_set M.wf h1 h2, M.ok, M.few, fun l hl => ?_⟩
  rcases List.mem_or_eq_of_mem_set hl with z | z
  · exact M.short l z
  · rw [z]
    have := (List.eraseIdx_sublist lf i).length_le
    have := M.short lf (List.mem_of_getElem? h2)
    omega
/-- the map's lines, all that is asked of them -/
structure LinesOk (L : List PLine) : Prop where
  ok : ∀ q ∈ L, LineOk q
  nd : ∀ q ∈ L, q.2.Nodup
  few : L.length ≤ 4
theorem LinesOk.full {L : List PLine} (h : LinesOk L) : MapOk L (Geo.fullF L) := by
  refine ⟨Geo.Wf_full h.nd, h.ok, h.few, fun lf hl => ?_⟩
  unfold Geo.fullF at hl
  rw [List.mem_map] at hl
  obtain ⟨q, hq, rfl⟩ := hl
  rw [List.length_range]
  exact (h.ok q hq).1.2
/-- the specification's lines -/
def specL (L : List PLine) : List Mm01.Line := L.map fun q => Geo.mkLine q.1 q.2
def spGo (C : Addr) : Sp := fun vs H Q _ => ∃ (v : V) (L : List PLine), vs = [v] ∧ Ls (LineAt C) H v L ∧ LinesOk L ∧ RetN GoAt (Mm01.order (specL L)) H Q
theorem snGo {C : Addr} {H : Hp} {v : V} {L : List PLine} (h : Ls (LineAt C) H v L) (ok : LinesOk L) : SpN (spGo C) [v] H GoAt (Mm01.order (specL L)) := fun H1 e Q k E => ⟨v, L, rfl, exL e h, ok, k⟩
theorem num_at {L : List PLine} {F : List (List Nat)} {k i : Nat} {q : PLine} {lf : List Nat} (h1 : L[k]? = some q) (h2 : F[k]? = some lf) (hi : i < lf.length) : (((Geo.lsOf L F).getD k Geo.lz).points.getD i (0, (0, 0))).1 = lf.getD i 0 := by
  rw [Geo.lsOf_points h1 h2, List.getD_eq_getElem?_getD, List.getElem?_map, List.getElem?_eq_getElem hi, List.getD_eq_getElem?_getD, List.getElem?_eq_getElem hi]
  rfl
theorem count_set {L : List PLine} {F : List (List Nat)} (M : MapOk L F) {k i : Nat} {q : PLine} {lf : List Nat} (h1 : L[k]? = some q) (h2 : F[k]? = some lf) (hi : i < lf.length) : Mm01.count (Geo.lsOf L (F.set k (lf.eraseIdx i))) + 1 = Mm01.count (Geo.lsOf L F) := by
  rw [← Geo.takeOut_lsOf M.wf h1 h2]
  refine Geo.count_takeOut (by rw [Geo.lsOf_length M.wf.len]; exact (List.getElem?_eq_some_iff.mp h1).1) ?_
  rw [Geo.lsOf_points h1 h2, List.length_map]
  exact hi
theorem yes_go {te : TE} {σ : L2.St} {H : Hp} {Q : VK} {R : Hp → Prop} (h : te σ H Q) : tYes σ H (fun b H3 => if b = true then te σ H3 Q else R H3) := by
  show (if true = true then te σ H Q else R H)
  rw [if_pos rfl]
  exact h
/-- left[k].remove(n) -/
theorem q_rem {K : PySem.W.Frag} {σ : L2.St} {H : Hp} {ta tb : TE} {tz : TS} {D : Ends} {l : Addr} {lf : List Nat} {i n : Nat} (ha : Ev ta σ H (.ref l)) (hl : H l = some (.lst (nV lf))) (hk : Ev tb σ H (.int (n : Int))) (up : lf.Pairwise (· < ·)) (hi : i < lf.length) (hn : lf.getD i 0 = n)
    (k : ∀ H1, Ex H H1 → tz D σ (upd H1 l (.lst (nV (lf.eraseIdx i))))) : tSeq (tDrop (tBM K "list" rRemI ta (tCons tb tNil))) tz D σ H := ha H (Ex.refl H) _ fun H1 e1 =>
  ⟨Or.inl ⟨rfl, _, sq_of (e1 _ _ hl)⟩, hk H1 e1 _ fun H2 e2 => ⟨l, lf.map fun (i : Nat) => (i : Int), (n : Int), i, rfl, rfl, by rw [← nV_eq]; exact e2 _ _ (e1 _ _ hl), by
    rw [List.getElem?_map, List.getElem?_eq_getElem hi, ← hn, List.getD_eq_getElem?_getD, List.getElem?_eq_getElem hi]
    rfl, fun m hm e => by
    have ml : m < lf.length := by omega
    rw [List.getElem?_map, List.getElem?_eq_getElem ml] at e
    have e : (lf[m] : Int) = (n : Int) := Option.some.inj e
    rw [List.getD_eq_getElem?_getD, List.getElem?_eq_getElem hi] at hn
    have hn : lf[i] = n := hn
    have := List.pairwise_iff_getElem.mp up m i ml hi hm
    omega, by
    rw [Geo.eraseIdx_map, ← nV_eq]
    exact k H2 (e1.trans e2)⟩⟩
def tGoBody (K : PySem.W.Frag) (C : Addr) : TS :=
  tSeq (tAsg (tCB rMax2 (tCons (tVar 3) (tCons (tOp (rIxT K) (tVar 4) (tC (.int 0))) tNil))) (gName 3))
    (tSeq (tDrop (tBM K "list" rAppend (tVar 2) (tCons (tTup (tCons (tOp (rIxT K) (tVar 4) (tC (.int 1))) (tCons (tOp (rIxT K) (tVar 4) (tC (.int 2))) (tCons (tVar 3) tNil)))) tNil)))
    (tSeq (tDrop (tBM K "list" rRemI (tOp (rIxL K) (tVar 1) (tOp (rIxT K) (tVar 4) (tC (.int 1)))) (tCons (tOp (rIxT K) (tVar 4) (tC (.int 2))) tNil)))
    (tAsg (tCall (spNext C) [] E0 (tCons (tVar 0) (tCons (tVar 1) tNil))) (gName 4))))
def GoW (L : List PLine) (H : Hp) (al ag gd : Addr) (bs : List Addr) (m : Nat) (σ' : L2.St) (H' : Hp) : Prop := ∃ (G : List (List Nat)) (w : Nat) (o5 : Option V) (cv : V) (done : List Off) (gacc : List V) (fu : Nat),
  σ' = [some (.ref al), some (.ref ag), some (.ref gd), some (.int (w : Int)), some cv, o5] ∧ Ex H H' ∧ LeftAt H H' ag bs G ∧ H' gd = some (.lst gacc) ∧ Each (GoAt H') gacc done ∧ MapOk L G ∧
  Mm01.order (specL L) = done ++ Mm01.goes fu w (Geo.lsOf L G) ∧ Mm01.count (Geo.lsOf L G) < fu ∧ done.length + Mm01.count (Geo.lsOf L G) ≤ 48 ∧ m = Mm01.count (Geo.lsOf L G) ∧
  ((cv = .non ∧ Mm01.next (Geo.lsOf L G) = none) ∨ ∃ (c k i n : Nat) (q : PLine) (lf : List Nat), L[k]? = some q ∧ G[k]? = some lf ∧ i < lf.length ∧ lf.getD i 0 = n ∧ Mm01.next (Geo.lsOf L G) = some (c, k, i) ∧ GoneAt H' cv c k n)
theorem go_loop {K : PySem.W.Frag} {C : Addr} {L : List PLine} {H : Hp} {al ag gd : Addr} {bs : List Addr} {D : Ends} {tz : TS} (hL : Ls (LineAt C) H (.ref al) L) (gda : gd ≠ ag) (gdb : gd ∉ bs) (gdH : H gd = none) {m0 : Nat} {σ0 : L2.St} {H0 : Hp} (hW0 : GoW L H al ag gd bs m0 σ0 H0)
    (fin : ∀ (σ' : L2.St) (H' : Hp) (gacc : List V), σ'[2]? = some (some (.ref gd)) → Ex H H' → H' gd = some (.lst gacc) → Each (GoAt H') gacc (Mm01.order (specL L)) → tz D σ' H') :
    tSeq (tWhile (tTest (tOp (fun x y H Q => y = V.non ∧ Q (.bl (!decide (x = .non))) H) (tVar 4) (tC .non))) (tGoBody K C)) tz D σ0 H0 := by
  refine q_while (GoW L H al ag gd bs) m0 hW0 ?_
  rintro m σ' H' ⟨G, w, o5, cv, done, gacc, fu, rfl, eH, LG, hg, hE, M, ho, hf, hc, rfl, hcv⟩
  refine ⟨_, et_test (ev_op (ev_var rfl) ev_c rv_notN), fun hb H4 e4 => ?_, fun hb H4 e4 => ?_⟩
  · rcases hcv with ⟨z, _⟩ | ⟨c, k, i, n, q, lf, a1, a2, a3, a4, a5, a6⟩
    · rw [z] at hb
      simp at hb
    · have eH4 := eH.trans e4
      have LG4 := LG.ex e4
      have hg4 := e4 _ _ hg
      obtain ⟨cb, cl, rfl, hcb⟩ := a6.ex e4
      have mx : (if (c : Int) > (w : Int) then (c : Int) else (w : Int)) = ((max w c : Nat) : Int) := by split <;> omega
      refine ⟨fun σ2 H2 => ∃ m', m' < Mm01.count (Geo.lsOf L G) ∧ GoW L H al ag gd bs m' σ2 H2, fun σ2 H2 z => z, ?_⟩
      unfold tGoBody
      refine q_asg (v := .int ((max w c : Nat) : Int)) (ev_is (ev_max2 (ev_var rfl) (ev_op (ev_var rfl) ev_c (rv_ixT (st_of hcb) (atI_nat (j := 0) rfl)))) (by rw [mx])) fun H5 e5 => ?_
      have hg5 := e5 _ _ hg4
      have hcb5 := e5 _ _ hcb
      have glen := hE.length
      refine q_appU (K := K) (l := gd) (xs := gacc) (ys := [.int (k : Int), .int (n : Int), .int ((max w c : Nat) : Int)]) hg5 (ev_var rfl) (eu_tup (ea_cons (ev_op (ev_var rfl) ev_c (rv_ixT (st_of hcb5) (atI_nat (j := 1) rfl))) (ea_cons (ev_op (ev_var rfl) ev_c (rv_ixT (st_of hcb5) (atI_nat (j := 2) rfl))) (ea_cons (ev_var rfl) ea_nil))) (by show 3 ≤ 100000; decide)) (by omega) fun pt H6 hpt e6 h6 => ?_
      have hg6 := e6 _ _ hg5
      have e46 := e5.trans e6
      have ext : ExT H6 (upd H6 gd (.lst (gacc ++ [.ref pt]))) := ExT.upd hg6
      have LG6 : LeftAt H (upd H6 gd (.lst (gacc ++ [.ref pt]))) ag bs G := (LG4.ex e46).other gda gdb
      have eH6 : Ex H (upd H6 gd (.lst (gacc ++ [.ref pt]))) := Ex.mut (eH4.trans e46) gdH
      have hcb6 : (upd H6 gd (.lst (gacc ++ [.ref pt]))) cb = some (.tup [.int (c : Int), .int (k : Int), .int (n : Int), cl]) := ext _ _ (e6 _ _ hcb5)
      have hgd6 : (upd H6 gd (.lst (gacc ++ [.ref pt]))) gd = some (.lst (gacc ++ [.ref pt])) := upd_same
      have hE6 : Each (GoAt (upd H6 gd (.lst (gacc ++ [.ref pt])))) (gacc ++ [.ref pt]) (done ++ [(k, n, max w c)]) :=
        Each.snoc ⟨pt, rfl, ext _ _ h6⟩ (hE.mono fun v x r => (r.ex (e4.trans e46)).exT ext)
      generalize (upd H6 gd (.lst (gacc ++ [.ref pt]))) = H7 at LG6 eH6 hcb6 hgd6 hE6
      have kb : k < bs.length := by rw [LG6.len]; exact (List.getElem?_eq_some_iff.mp a2).1
      have hbk : bs[k]? = some bs[k] := List.getElem?_eq_getElem kb
      generalize bs[k] = bk at hbk
      have hlk := LG6.each k bk lf hbk a2
      have bm := List.mem_of_getElem? hbk
      have up := (M.wf.each k q lf a1 a2).up
      refine q_rem (K := K) (l := bk) (lf := lf) (i := i) (n := n) (ev_op (ev_var rfl) (ev_op (ev_var rfl) ev_c (rv_ixT (st_of hcb6) (atI_nat (j := 1) rfl))) (rv_ixL (sq_of LG6.hag) (atI_nat (by rw [List.getElem?_map, hbk]; rfl)))) hlk (ev_op (ev_var rfl) ev_c (rv_ixT (st_of hcb6) (atI_nat (j := 2) rfl))) up a3 a4 fun H8 e8 => ?_
      have LG8 := LG6.ex e8
      have hlk8 := e8 _ _ hlk
      have ext8 : ExT H8 (upd H8 bk (.lst (nV (lf.eraseIdx i)))) := ExT.upd hlk8
      have LG9 := LG8.one hbk (lf.eraseIdx i)
      have eH9 : Ex H (upd H8 bk (.lst (nV (lf.eraseIdx i)))) := Ex.mut (eH6.trans e8) (LG.new.2 bk bm)
      have gne : gd ≠ bk := fun z => gdb (by rw [z]; exact bm)
      have hgd9 : (upd H8 bk (.lst (nV (lf.eraseIdx i)))) gd = some (.lst (gacc ++ [.ref pt])) := by
        rw [upd_ne gne]
        exact e8 _ _ hgd6
      have hE9 : Each (GoAt (upd H8 bk (.lst (nV (lf.eraseIdx i))))) (gacc ++ [.ref pt]) (done ++ [(k, n, max w c)]) := hE6.mono fun v x r => (r.ex e8).exT ext8
      generalize (upd H8 bk (.lst (nV (lf.eraseIdx i)))) = H9 at LG9 eH9 hgd9 hE9
      have M9 := M.set (i := i) a1 a2
      have cset := count_set M a1 a2 a3
      obtain ⟨fu', hfu', goeq⟩ := Geo.goes_some (w := w) a5 hf
      rw [Geo.takeOut_lsOf M.wf a1 a2] at hfu' goeq
      rw [num_at a1 a2 a3, a4] at goeq
      have ho9 : Mm01.order (specL L) = (done ++ [(k, n, max w c)]) ++ Mm01.goes fu' (max w c) (Geo.lsOf L (G.set k (lf.eraseIdx i))) := by
        rw [ho, goeq, List.append_assoc]
        rfl
      have hc9 : (done ++ [(k, n, max w c)]).length + Mm01.count (Geo.lsOf L (G.set k (lf.eraseIdx i))) ≤ 48 := by
        rw [List.length_append, List.length_singleton]
        omega
      refine s_asgX (ea_cons (ev_var rfl) (ea_cons (ev_var rfl) ea_nil)) (exL eH9 hL) LG9.ls M9 (fun hn H10 e10 => ?_) (fun c' k' i' n' q' lf' v' H10 b1 b2 b3 b4 b5 e10 b6 => ?_)
      · exact ⟨_, by omega, _, _, _, _, _, _, fu', rfl, eH9.trans e10, LG9.ex e10, e10 _ _ hgd9, hE9.mono fun v x r => r.ex e10, M9, ho9, hfu', hc9, rfl, Or.inl ⟨rfl, hn⟩⟩
      · exact ⟨_, by omega, _, _, _, _, _, _, fu', rfl, eH9.trans e10, LG9.ex e10, e10 _ _ hgd9, hE9.mono fun v x r => r.ex e10, M9, ho9, hfu', hc9, rfl, Or.inr ⟨c', k', i', n', q', lf', b1, b2, b3, b4, b5, b6⟩⟩
  · rcases hcv with ⟨z, hn⟩ | ⟨c, k, i, n, q, lf, a1, a2, a3, a4, a5, ⟨cb, cl, rfl, hcb⟩⟩
    · rw [Geo.goes_none hn, List.append_nil] at ho
      rw [ho] at fin
      exact fin _ H4 gacc rfl (eH.trans e4) (e4 _ _ hg) (hE.mono fun v x r => r.ex e4)
    · simp at hb
section
variable {P : Program} {w : World} {K : PySem.W.Frag} {mg : Str → Option Value} {base : Heap} {C : Addr}
abbrev nGo : List Str := ["lines", "left", "goings", "greatest", "candidate", "line"]
theorem scGo : FnScope nGo ["lines"] (defScope sGo) := ⟨rfl, rfl, rfl, by decide +kernel, rfl, by decide +kernel, by decide +kernel⟩
theorem ok_go {f : Addr} {fd : FuncData} (F : Fun K "goings_of" "goings_of" sGo f fd) (B : Bi mg) (T : TL K mg C) (DN : dNext C P w K mg base) : FnOk P w K mg base CX0 5 f fd ["lines"] (spGo C) := by
  refine F.ok scGo (fun vs H Q E h => ?_) (fun cdv A outer s H vs Q E hr h => ?_)
  · obtain ⟨v, L, rfl, _⟩ := h
    rfl
  · obtain ⟨_, L, rfl, hL, ok, kk⟩ := h
    obtain ⟨al, ls, rfl, hal, hel⟩ := id hL
    have lenl := hel.length
    have few := ok.few
    refine ⟨_, pss_cons (ps_setLc (i := 1) (own := [("line", 5)]) (g := gName 5) (tt := tYes) (te := tLstRg (tRg1 (tCB (rLenS K) (tCons (tFld K (tVar 5) "points") tNil)))) rfl scGo.nd rfl rfl (sw_true rfl rfl rfl (by decide +kernel)) (pi_list (pv 0)) (blkOk_by (N := nGo) (sc := defScope sGo) (by decide +kernel))
        (fun _ _ _ _ _ => pg_name (i := 5) scGo.nd rfl (Or.inl rfl)) (fun _ _ _ _ _ => pts_nil) (fun _ _ _ _ _ => pe_listRg rfl (by rfl) B.list (prg_1 (by rfl) B.range (pe_callB call_len_seq (by rfl) B.len PySem.boot_len (pa_cons (pe_fld (pv 5) rfl) pa_nil)))))
      (pss_cons (ps_set (i := 2) scGo.nd rfl (Or.inl rfl) (pe_lst pa_nil))
      (pss_cons (ps_set (i := 3) scGo.nd rfl (Or.inl rfl) pe_int)
      (pss_cons (ps_set (i := 4) scGo.nd rfl (Or.inl rfl) (pe_d DN hr (by decide) rfl (pa_cons (pv 0) (pa_cons (pv 1) pa_nil))))
      (pss_cons (ps_while PassesOwn.never (pt_cmpR op_notN (pv 4) pe_non (nomark _))
        (pss_cons (ps_set (i := 3) scGo.nd rfl (Or.inl rfl) (pe_callB (call_max2 rfl) (by rfl) B.max (by decide +kernel) (pa_cons (pv 3) (pa_cons (pe_ix ix_tup (pv 4) pe_int (fun _ _ => rfl)) pa_nil))))
        (pss_cons (ps_expr (pe_bm PySem.F.plainAttrs_list PySem.F.slot_list_append PySem.F.type_list_append mt_append (pv 2) (pa_cons (pe_tup (pa_cons (pe_ix ix_tup (pv 4) pe_int (fun _ _ => rfl)) (pa_cons (pe_ix ix_tup (pv 4) pe_int (fun _ _ => rfl)) (pa_cons (pv 3) pa_nil)))) pa_nil)))
        (pss_cons (ps_expr (pe_bm PySem.F.plainAttrs_list PySem.F.slot_list_remove PySem.F.type_list_remove mt_remove (pe_ix ix_list (pv 1) (pe_ix ix_tup (pv 4) pe_int (fun _ _ => rfl)) (fun _ _ => rfl)) (pa_cons (pe_ix ix_tup (pv 4) pe_int (fun _ _ => rfl)) pa_nil)))
        (pss_one (ps_set (i := 4) scGo.nd rfl (Or.inl rfl) (pe_d DN hr (by decide) rfl (pa_cons (pv 0) (pa_cons (pv 1) pa_nil)))))))))
      (pss_one (ps_ret (pv 2))))))), ?_⟩
    -- left = [list(range(len(line.points))) for line in lines]
    refine ⟨_, rfl, al, rfl, ⟨ls, sq_of hal⟩, fun ag hag => lc_list (K := K) (xs := ls) (fun i H' => Ex H H' ∧ ∃ bs : List Addr, H' ag = some (.lst (bs.map V.ref)) ∧ bs.Nodup ∧ ag ∉ bs ∧ bs.length = i ∧ (∀ b ∈ bs, H b = none) ∧ ∀ (k : Nat) (b : Addr) (lf : List Nat), bs[k]? = some b → (Geo.fullF L)[k]? = some lf → H' b = some (.lst (nV lf)))
      ⟨Ex.new hag, [], upd_same, List.Pairwise.nil, by simp, rfl, (fun b hb => by cases hb), (fun k b lf h => by simp at h)⟩ (fun i H' _ p => sq_of (p.1 _ _ hal)) ?_ ?_⟩
    · rintro i x H' hi ⟨eH, bs, hb1, hb2, hb3, hb4, hb5, hb6⟩
      obtain ⟨q, hq1, hq2⟩ := hel.get hi
      obtain ⟨a, dx, l, rfl, ha, ⟨_, pvs, eq, hpl, hep⟩⟩ := id hq2
      cases eq
      have okq := ok.ok q (List.mem_of_getElem? hq1)
      refine ⟨rfl, yes_go ?_⟩
      refine el_rng1 (n := (q.2.length : Int)) (ev_is (ev_len (K := K) (ev_fld (ev_var rfl) (eH _ _ ha) T.cl T.nP (lF_points _ _)) (sq_of (eH _ _ hpl))) (by rw [hep.length])) (by have := okq.1; omega) H' (Ex.refl H') _ fun p H2 hp e2 h2 => ?_
      have pa : p ≠ ag := fun z => by rw [z, hb1] at hp; cases hp
      have a2 := e2 _ _ hb1
      have pH : H p = none := fresh_back eH hp
      have pb : p ∉ bs := fun z => by
        obtain ⟨k, hk⟩ := List.getElem?_of_mem z
        have kl := (List.getElem?_eq_some_iff.mp hk).1
        have il := (List.getElem?_eq_some_iff.mp hi).1
        have : (Geo.fullF L)[k]? = some (List.range L[k].2.length) := by
          unfold Geo.fullF
          rw [List.getElem?_map, List.getElem?_eq_getElem (by omega)]
          rfl
        have := hb6 k p _ hk this
        rw [hp] at this
        cases this
      have bl : bs.length ≤ 4 := by have := (List.getElem?_eq_some_iff.mp hi).1; omega
      refine ⟨_, a2, sz_lt (by rw [List.length_map]; omega), Ex.mut (eH.trans e2) hag, bs ++ [p], by rw [upd_same, List.map_append]; rfl, ?_, ?_, ?_, ?_, ?_⟩
      · rw [List.nodup_append]
        refine ⟨hb2, by simp, fun b hb b' hb' e => ?_⟩
        rw [List.mem_singleton] at hb'
        rw [e, hb'] at hb
        exact pb hb
      · rw [List.mem_append, List.mem_singleton]
        rintro (z | z)
        · exact hb3 z
        · exact pa z.symm
      · rw [List.length_append, hb4]; rfl
      · intro b hb
        rw [List.mem_append, List.mem_singleton] at hb
        rcases hb with z | z
        · exact hb5 b z
        · rw [z]; exact pH
      · intro k b lf h1 h2'
        rw [List.getElem?_append] at h1
        by_cases kl : k < bs.length
        · rw [if_pos kl] at h1
          have hne : b ≠ ag := fun z => hb3 (z ▸ List.mem_of_getElem? h1)
          rw [upd_ne hne]
          exact e2 _ _ (hb6 k b lf h1 h2')
        · rw [if_neg kl] at h1
          have k0 : k - bs.length = 0 := by
            have := (List.getElem?_eq_some_iff.mp h1).1
            simp at this
            omega
          rw [k0] at h1
          have h1 : p = b := by simpa using h1
          have ki : k = i := by omega
          rw [← h1, upd_ne pa, h2]
          unfold Geo.fullF at h2'
          rw [ki, List.getElem?_map, hq1] at h2'
          have h2' := Option.some.inj h2'
          rw [← h2']
          congr 2
          unfold rgV nV
          have : ((q.2.length : Int) - 0).toNat = q.2.length := by omega
          rw [this]
          apply List.map_congr_left
          intro i _
          show V.int (0 + (i : Int)) = V.int (i : Int)
          rw [Int.zero_add]
    rintro H1 ⟨e1, bs, hb1, hb2, hb3, hb4, hb5, hb6⟩
    have fl : (Geo.fullF L).length = L.length := by unfold Geo.fullF; rw [List.length_map]
    have LA : LeftAt H H1 ag bs (Geo.fullF L) := ⟨hb1, hb2, hb3, ⟨hag, hb5⟩, by omega, hb6⟩
    have M0 := ok.full
    have c48 := count_le M0
    show tSeq _ _ _ _ _
    refine q_asgL (el_lst ea_nil (by decide)) fun gd H2 hgd e2 d2 => ?_
    refine q_asg ev_c fun H3 e3 => ?_
    have e23 := e2.trans e3
    have LA3 := LA.ex e23
    have d3 := e3 _ _ d2
    have e03 := e1.trans e23
    have gda : gd ≠ ag := fun z => by rw [z, hb1] at hgd; cases hgd
    have gdb : gd ∉ bs := fun z => by
      obtain ⟨k, hk⟩ := List.getElem?_of_mem z
      have kl := (List.getElem?_eq_some_iff.mp hk).1
      have := hb6 k gd _ hk (List.getElem?_eq_getElem (by omega))
      rw [hgd] at this
      cases this
    have gdH : H gd = none := fresh_back e1 hgd
    -- the loop
    have ord0 : Mm01.order (specL L) = [] ++ Mm01.goes (Mm01.count (Geo.lsOf L (Geo.fullF L)) + 1) 0 (Geo.lsOf L (Geo.fullF L)) := by
      rw [Geo.lsOf_full]
      rfl
    have fin : ∀ (σ' : L2.St) (H' : Hp) (gacc : List V), σ'[2]? = some (some (.ref gd)) → Ex H H' → H' gd = some (.lst gacc) → Each (GoAt H') gacc (Mm01.order (specL L)) → tRet (tVar 2) { nx := fun _ H' => Q .non H', rt := Q } σ' H' := fun σ' H' gacc hσ eH hg hE =>
      s_ret (ev_var hσ) fun H5 e5 => kk gd gacc H5 gdH (eH.trans e5) (e5 _ _ hg) (hE.mono fun v x r => r.ex e5)
    refine q_asgX (ea_cons (ev_var rfl) (ea_cons (ev_var rfl) ea_nil)) (exL e03 hL) LA3.ls M0 (fun hn H4 e4 => ?_) (fun c k i n q lf v H4 a1 a2 a3 a4 a5 e4 a6 => ?_)
    · exact go_loop hL gda gdb gdH ⟨Geo.fullF L, 0, none, .non, [], [], _, rfl, e03.trans e4, LA3.ex e4, e4 _ _ d3, trivial, M0, ord0, Nat.lt_succ_self _, by simpa using c48, rfl, Or.inl ⟨rfl, hn⟩⟩ fin
    · exact go_loop hL gda gdb gdH ⟨Geo.fullF L, 0, none, v, [], [], _, rfl, e03.trans e4, LA3.ex e4, e4 _ _ d3, trivial, M0, ord0, Nat.lt_succ_self _, by simpa using c48, rfl, Or.inr ⟨c, k, i, n, q, lf, a1, a2, a3, a4, a5, a6⟩⟩ fin
end
abbrev dGo (C : Addr) (P : Program) (w : World) (K : PySem.W.Frag) (mg : Str → Option Value) (base : Heap) : Prop := Dn P w K mg base 5 "goings_of" ["lines"] (spGo C)
end PL
namespace PL
open PySem PySem.Spec PyProof.Rows L2 Evl
open Geo (Seg pz PLine Cand Tri Off)
/-- the program's own constants -/
structure Cn (mg : Str → Option Value) : Prop where
  pts : ∃ t, mg "MOST_POINTS" = some (.int 12 t)
  acr : ∃ t, mg "MOST_ACROSS" = some (.int 1000 t)
  mln : ∃ t, mg "MOST_LINES" = some (.int 4 t)
  ng : ∃ t, mg "NOT_GRANTED" = some (.int (-1) t)
  ns : ∃ t, mg "NOT_SOUND" = some (.int (-2) t)
  nl : ∃ t, mg "NO_LINE" = some (.int (-3) t)
  np : ∃ t, mg "NO_POINT" = some (.int (-4) t)
  tm : ∃ t, mg "TOO_MANY_LINES" = some (.int (-5) t)
  lm : ∃ t, mg "LINES_MEET" = some (.int (-6) t)
/-! ### is_granted -/
abbrev sGrant : Stmt := top 38
def spGrant : Sp := fun vs H Q _ => ∃ (r : Nat) (v : V) (l : List Nat), vs = [.int (r : Int), v] ∧ NatL H v l ∧ l.length ≤ 1300 ∧ RetV (.bl (Geo.granted r l)) H Q
theorem svGrant {H : Hp} {r : Nat} {v : V} {l : List Nat} (h : NatL H v l) (hl : l.length ≤ 1300) : SpV spGrant [.int (r : Int), v] H (.bl (Geo.granted r l)) := fun H1 e Q k E => ⟨r, v, l, rfl, h.ex e, hl, k⟩
theorem lmax_all {l : List Nat} (h : l ≠ []) : decide (Geo.lmax (l.map fun (i : Nat) => (i : Int)) ≤ 1000) = l.all fun n => decide (n ≤ 1000) := by
  have hne : (l.map fun (i : Nat) => (i : Int)) ≠ [] := by simpa using h
  rw [Bool.eq_iff_iff, decide_eq_true_iff, List.all_eq_true]
  constructor
  · intro hm n hn
    have := Geo.le_lmax (l.map fun (i : Nat) => (i : Int)) (n : Int) (List.mem_map.mpr ⟨n, hn, rfl⟩)
    rw [decide_eq_true_iff]
    omega
  · intro ha
    have hm := Geo.lmax_mem _ hne
    rw [List.mem_map] at hm
    obtain ⟨n, hn, e⟩ := hm
    have := of_decide_eq_true (ha n hn)
    rw [← e]
    omega
section
variable {P : Program} {w : World} {K : PySem.W.Frag} {mg : Str → Option Value} {base : Heap} {C : Addr}
theorem scGrant : FnScope ["ring", "numbers", "fewest"] ["ring", "numbers"] (defScope sGrant) := ⟨rfl, rfl, rfl, by decide +kernel, rfl, by decide +kernel, by decide +kernel⟩
theorem ok_grant {f : Addr} {fd : FuncData} (F : Fun K "is_granted" "is_granted" sGrant f fd) (B : Bi mg) (N : Cn mg) : FnOk P w K mg base CX0 1 f fd ["ring", "numbers"] spGrant := by
  refine F.ok scGrant (fun vs H Q E h => ?_) (fun cdv A outer s H vs Q E hr h => ?_)
  · obtain ⟨r, v, l, rfl, _⟩ := h
    rfl
  · obtain ⟨r, _, l, rfl, ⟨b, rfl, hb⟩, hl, k⟩ := h
    obtain ⟨t1, g1⟩ := N.pts
    obtain ⟨t2, g2⟩ := N.acr
    refine ⟨_, pss_cons (ps_if (PW.pt (pw_or (pt_cmpR op_gt (pv 0) pe_int (nomark _)) (pw_or1 (pt_cmpR op_eq (pe_op op_mod (pe_callB call_len_seq (by rfl) B.len PySem.boot_len (pa_cons (pv 1) pa_nil)) pe_int) pe_int (nomark _))))) (pss_one (ps_ret pe_bl)) pss_nil)
      (pss_cons (ps_set (i := 2) scGrant.nd rfl (Or.inl rfl) (pe_ifExp (pt_cmpR op_eq (pv 0) pe_int (nomark _)) pe_int pe_int))
      (pss_cons (ps_if (PW.pt (pw_or (pt_cmpR op_lt (pe_callB call_len_seq (by rfl) B.len PySem.boot_len (pa_cons (pv 1) pa_nil)) (pe_op op_mul pe_int (pv 2)) (nomark _)) (pw_or1 (pt_cmpR op_gt (pe_callB call_len_seq (by rfl) B.len PySem.boot_len (pa_cons (pv 1) pa_nil)) (pe_op op_mul pe_int (pe_glob (v := .int 12) rfl g1 ⟨_, rfl⟩)) (nomark _))))) (pss_one (ps_ret pe_bl)) pss_nil)
      (pss_one (ps_ret (pe_cmpR op_le (pe_callB (cr_max rfl) (by rfl) B.max (by decide +kernel) (pa_cons (pv 1) pa_nil)) (pe_glob (v := .int 1000) rfl g2 ⟨_, rfl⟩) (nomark _)))))), ?_⟩
    have hlen : ∀ (σ : L2.St) (H1 : Hp), Ex H H1 → σ[1]? = some (some (.ref b)) → Ev (tCB (rLenS K) (tCons (tVar 1) tNil)) σ H1 (.int (l.length : Int)) := fun σ H1 e hσ => ev_is (ev_len (K := K) (ev_var hσ) (sq_of (e _ _ hb))) (by rw [nV_len])
    refine q_when (et_or (et_test (ev_op (ev_var rfl) ev_c rv_I0)) fun _ => et_is (et_test (ev_op (ev_op (hlen _ H (Ex.refl H) rfl) ev_c (rv_I (by show (0 : Int) < 2; decide))) ev_c (rv_eq rfl))) (decV _ _)) (fun hc H1 e1 => ?_) (fun hc H1 e1 => ?_)
    · refine s_ret ev_c fun H2 e2 => ?_
      have : Geo.granted r l = false := by
        unfold Geo.granted
        rw [if_pos]
        rw [Bool.or_eq_true, decide_eq_true_iff, decide_eq_true_iff] at hc
        omega
      rw [this] at k
      exact k H2 (e1.trans e2)
    have c1 : ¬ (1 < r ∨ l.length % 2 = 1) := by
      rw [Bool.or_eq_false_iff, decide_eq_false_iff_not, decide_eq_false_iff_not] at hc
      omega
    refine q_asg (v := .int ((if r = 1 then 3 else 2 : Nat) : Int)) (ev_if (et_is (et_test (ev_op (ev_var rfl) ev_c (rv_eq rfl))) (decV _ _)) (fun h => ?_) (fun h => ?_)) fun H2 e2 => ?_
    · have : r = 1 := by have := of_decide_eq_true h; omega
      rw [if_pos this]
      exact ev_c
    · have : ¬ r = 1 := by have := of_decide_eq_false h; omega
      rw [if_neg this]
      exact ev_c
    have e12 := e1.trans e2
    have few : (if r = 1 then 3 else 2 : Nat) ≤ 3 := by split <;> omega
    refine q_when (et_or (et_test (ev_op (hlen _ H2 e12 rfl) (ev_op ev_c (ev_var rfl) (rv_I (.inl (mul_ok (by decide))))) rv_I0)) fun _ => et_test (ev_op (hlen _ H2 e12 rfl) (ev_op ev_c ev_c (rv_I (.inl (mul_ok (by decide))))) rv_I0)) (fun hc H3 e3 => ?_) (fun hc H3 e3 => ?_)
    · refine s_ret ev_c fun H4 e4 => ?_
      have : Geo.granted r l = false := by
        unfold Geo.granted
        rw [if_neg c1, if_pos]
        rw [Bool.or_eq_true, decide_eq_true_iff, decide_eq_true_iff] at hc
        omega
      rw [this] at k
      exact k H4 ((e12.trans e3).trans e4)
    · have c2 : ¬ (l.length < 2 * (if r = 1 then 3 else 2) ∨ 2 * 12 < l.length) := by
        rw [Bool.or_eq_false_iff, decide_eq_false_iff_not, decide_eq_false_iff_not] at hc
        omega
      have ne : l ≠ [] := by
        rintro rfl
        simp only [List.length_nil] at c2
        split at c2 <;> omega
      have : Geo.granted r l = l.all fun n => decide (n ≤ 1000) := by
        unfold Geo.granted
        rw [if_neg c1, if_neg c2]
      rw [this, ← lmax_all ne] at k
      have e13 := e12.trans e3
      have sq : SqL K H3 b ((l.map fun (i : Nat) => (i : Int)).map V.int) := by rw [← nV_eq]; exact sq_of (e13 _ _ hb)
      exact s_ret (ev_op (ev_max (ev_var rfl) sq (by rw [List.length_map]; exact List.length_pos_iff.mpr ne)) ev_c rv_I0) fun H4 e4 => k H4 (e13.trans e4)
end
abbrev dGrant (P : Program) (w : World) (K : PySem.W.Frag) (mg : Str → Option Value) (base : Heap) : Prop := Dn P w K mg base 1 "is_granted" ["ring", "numbers"] spGrant
/-! ### places_from -/
abbrev sFrom : Stmt := top 39
def spFrom : Sp := fun vs H Q _ => ∃ (v : V) (l : List Nat), vs = [v] ∧ NatL H v l ∧ l.length % 2 = 0 ∧ l.length ≤ 1300 ∧ RetN Pl (Geo.placesOf l) H Q
theorem snFrom {H : Hp} {v : V} {l : List Nat} (h : NatL H v l) (h2 : l.length % 2 = 0) (hl : l.length ≤ 1300) : SpN spFrom [v] H Pl (Geo.placesOf l) := fun H1 e Q k E => ⟨v, l, rfl, h.ex e, h2, hl, k⟩
theorem placesOf_get : ∀ {l : List Nat} {i : Nat} {p : Pt}, (Geo.placesOf l)[i]? = some p → p = (((l.getD (2 * i) 0 : Nat) : Int), ((l.getD (2 * i + 1) 0 : Nat) : Int)) ∧ 2 * i + 1 < l.length
  | [], i, p, h => by simp [Geo.placesOf] at h
  | [_], i, p, h => by simp [Geo.placesOf] at h
  | x :: y :: l, 0, p, h => by
    have e : ((x : Int), (y : Int)) = p := by simpa [Geo.placesOf] using h
    refine ⟨e.symm, by simp⟩
  | x :: y :: l, i + 1, p, h => by
    obtain ⟨h1, h2⟩ := placesOf_get (l := l) (i := i) (p := p) (by simpa [Geo.placesOf] using h)
    have e1 : 2 * (i + 1) = (2 * i) + 1 + 1 := by omega
    have e2 : 2 * (i + 1) + 1 = (2 * i + 1) + 1 + 1 := by omega
    refine ⟨?_, by simp only [List.length_cons]; omega⟩
    rw [e2, e1, List.getD_cons_succ, List.getD_cons_succ, List.getD_cons_succ, List.getD_cons_succ]
    exact h1
theorem rgC_two {n : Nat} (h : n ≤ 100000) : RgC 0 ((2 * n : Nat) : Int) 2 n := by
  have hs : Builtin.Range.rangeSize 0 ((2 * n : Nat) : Int) 2 = (n : Int) := by
    unfold Builtin.Range.rangeSize
    rw [if_pos (by decide)]
    split <;> omega
  refine ⟨by decide, by decide, ?_, hs⟩
  have fl : ∀ i : Int, -1000000 ≤ i → i ≤ 1000000 → Builtin.Range.rangeFitsLong i = true := fun i h1 h2 => by
    unfold Builtin.Range.rangeFitsLong
    rw [Bool.and_eq_true, decide_eq_true_iff, decide_eq_true_iff]
    omega
  unfold Builtin.Range.small
  rw [hs, fl 0 (by omega) (by omega), fl _ (by omega) (by omega), fl 2 (by omega) (by omega), fl _ (by omega) (by omega), if_pos (by decide), fl _ (by omega) (by omega)]
  simp
section
variable {α : Type} {K : PySem.W.Frag} {σ : L2.St} {H : Hp} {ta : TA} {te : TE} {R : Hp → V → α → Prop} {xs : List α}
/-- [e for i in range(0, 2 n, 2)] -/
theorem en_lcR3 (mono : ∀ (H H' : Hp) (v : V) (x : α), ExT H H' → R H v x → R H' v x) {j : Nat} {vs : List Nat} {n : Nat} (h : EvA ta σ H [.int 0, .int ((2 * n : Nat) : Int), .int 2]) (hn : n ≤ 50000) (hl : n = xs.length)
    (hw : ∀ x, wipe ((wipe σ vs).set j (some x)) vs = wipe σ vs)
    (he : ∀ (i : Nat) (x : α) H1, Ex H H1 → xs[i]? = some x → EvP te ((wipe σ vs).set j (some (.int ((2 * i : Nat) : Int)))) H1 (fun v H2 => R H2 v x)) : EvN (tLc (iRng3 ta) (gName j) tYes te vs) σ H R xs := fun H0 e Q q =>
  h H0 e _ fun H1 e1 => ⟨0, _, 2, n, rfl, rgC_two (by omega), fun D hD =>
    lc_it walk_rangeC (fun i H' => Ex H1 H' ∧ ∃ acc, H' D = some (.lst acc) ∧ Each (R H') acc (xs.take i)) ⟨Ex.new hD, [], upd_same, trivial⟩ (fun _ _ _ _ => trivial)
      (fun i x H' H'' hi p ⟨eh, ex⟩ => by
        subst eh
        have hx : xs[i]? = some xs[i] := List.getElem?_eq_getElem (by omega)
        have e0 : (0 : Int) + ((i : Nat) : Int) * 2 = ((2 * i : Nat) : Int) := by omega
        have ex2 : x = V.int ((2 * i : Nat) : Int) := Eq.trans ex (congrArg V.int e0)
        subst ex2
        refine ⟨hw _, ?_⟩
        exact cn_turn mono hD (by omega) hx p (he i _ H1 (e.trans e1) hx))
      (fun H' p => by
        obtain ⟨e2, acc, h1, h2⟩ := p
        rw [hl, List.take_length] at h2
        exact q D acc H' (fresh_back e1 hD) (e1.trans e2) h1 h2)⟩
end
section
variable {P : Program} {w : World} {K : PySem.W.Frag} {mg : Str → Option Value} {base : Heap} {C : Addr}
theorem scFrom : FnScope ["numbers", "i"] ["numbers"] (defScope sFrom) := ⟨rfl, rfl, rfl, by decide +kernel, rfl, by decide +kernel, by decide +kernel⟩
theorem ok_from {f : Addr} {fd : FuncData} (F : Fun K "places_from" "places_from" sFrom f fd) (B : Bi mg) : FnOk P w K mg base CX0 1 f fd ["numbers"] spFrom := by
  refine F.ok scFrom (fun vs H Q E h => ?_) (fun cdv A outer s H vs Q E hr h => ?_)
  · obtain ⟨v, l, rfl, _⟩ := h
    rfl
  · obtain ⟨_, l, rfl, ⟨b, rfl, hb⟩, h2, hl, k⟩ := h
    have pl := Geo.placesOf_length l h2
    refine ⟨_, pss_one (ps_ret (pe_lc (own := [("i", 1)]) (g := gName 1) (tt := tYes) (te := tTup (tCons (tOp (rIxL K) (tVar 0) (tVar 1)) (tCons (tOp (rIxL K) (tVar 0) (tOp (rI0 fun i j => .int (i + j)) (tVar 1) (tC (.int 1)))) tNil))) rfl scFrom.nd
      (pi_range3 rfl B.range (pa_cons pe_int (pa_cons (pe_callB call_len_seq (by rfl) B.len PySem.boot_len (pa_cons (pv 0) pa_nil)) (pa_cons pe_int pa_nil)))) (blkOk_by (N := ["numbers", "i"]) (sc := defScope sFrom) (by decide +kernel))
      (fun _ _ _ _ _ => pg_name (i := 1) scFrom.nd rfl (Or.inl rfl)) (fun _ _ _ _ _ => pts_nil) (fun _ _ _ _ _ => pe_tup (pa_cons (pe_ix ix_list (pv 0) (pv 1) (fun _ _ => rfl)) (pa_cons (pe_ix ix_list (pv 0) (pe_op op_add (pv 1) pe_int) (fun _ _ => rfl)) pa_nil))))), ?_⟩
    have en := en_lcR3 (R := Pl) (xs := Geo.placesOf l) (σ := L2.start ["numbers", "i"] [.ref b]) (H := H) (j := 1) (vs := [1]) (n := (Geo.placesOf l).length) (ta := tCons (tC (.int 0)) (tCons (tCB (rLenS K) (tCons (tVar 0) tNil)) (tCons (tC (.int 2)) tNil)))
      (te := tTup (tCons (tOp (rIxL K) (tVar 0) (tVar 1)) (tCons (tOp (rIxL K) (tVar 0) (tOp (rI0 fun i j => .int (i + j)) (tVar 1) (tC (.int 1)))) tNil)))
      (fun _ _ _ _ => Pl.exT) (ea_cons ev_c (ea_cons (ev_is (ev_len (K := K) (ev_var rfl) (sq_of hb)) (by rw [nV_len, pl])) (ea_cons ev_c ea_nil))) (by omega) rfl (fun x => rfl) (fun i x H1 e1 hx => ?_)
    · exact en H (Ex.refl H) _ fun p us H1 hp e1 h1 hE => k p us H1 hp e1 h1 hE
    · obtain ⟨px, plt⟩ := placesOf_get hx
      refine EvP.imp (ep_tup2 (u := .int ((l.getD (2 * i) 0 : Nat) : Int)) (w := .int ((l.getD (2 * i + 1) 0 : Nat) : Int)) (ev_op (ev_var rfl) (ev_var rfl) (rv_ixL (sq_of (e1 _ _ hb)) (atI_nat (nV_get (by omega))))) (ev_op (ev_var rfl) (ev_op (ev_var rfl) ev_c rv_I0) (rv_ixL (sq_of (e1 _ _ hb)) ?_))) (fun v H3 e3 ⟨a, ea, ha⟩ => ⟨a, ea, ?_⟩)
      · have : ((2 * i : Nat) : Int) + 1 = ((2 * i + 1 : Nat) : Int) := by omega
        rw [this]
        exact atI_nat (nV_get plt)
      · rw [ha, px]
end
abbrev dFrom (P : Program) (w : World) (K : PySem.W.Frag) (mg : Str → Option Value) (base : Heap) : Prop := Dn P w K mg base 1 "places_from" ["numbers"] spFrom
/-! ### Line -/
abbrev sLineInit : Stmt := inClass (top 1) 0
def spLineInit (C : Addr) : Sp := fun vs H Q _ => ∃ (p dx l : Addr) (r : Bool), vs = [.ref p, .bl r, .ref l] ∧ H p = some (.ins C dx []) ∧ ∀ H' : Hp, H' p = some (.ins C dx (lF r l)) → (∀ b o, H b = some o → b ≠ p → H' b = some o) → Q .non H'
section
variable {P : Program} {w : World} {K : PySem.W.Frag} {mg : Str → Option Value} {base : Heap} {C : Addr}
theorem lF_put (r : Bool) (l : Addr) : putF "points" (.ref l) (putF "ring" (.bl r) []) = lF r l := by
  show (if ("ring" : Str) = "points" then _ else (("ring" : Str), V.bl r) :: putF "points" (.ref l) []) = lF r l
  rw [if_neg (by decide +kernel)]
  rfl
theorem scLineInit : FnScope ["self", "ring", "points"] ["self", "ring", "points"] (defScope sLineInit) := ⟨rfl, rfl, rfl, by decide +kernel, rfl, by decide +kernel, by decide +kernel⟩
theorem ok_lineInit {f : Addr} {fd : FuncData} (F : Fun K "__init__" "Line.__init__" sLineInit f fd) (T : TL K mg C) : FnOk P w K mg base CX0 1 f fd ["self", "ring", "points"] (spLineInit C) := by
  refine F.ok scLineInit (fun vs H Q E h => ?_) (fun cdv A outer s H vs Q E hr h => ?_)
  · obtain ⟨p, dx, l, r, rfl, _⟩ := h
    rfl
  · obtain ⟨p, dx, l, r, rfl, hp, k⟩ := h
    refine ⟨_, pss_cons (ps_fld (pv 0) (pv 1) rfl) (pss_one (ps_fld (pv 0) (pv 2) rfl)), ?_⟩
    refine ⟨_, rfl, _, rfl, p, C, dx, [], rfl, hp, T.cl, T.nR, (by show 0 < 1000; decide), ?_⟩
    refine ⟨_, rfl, _, rfl, p, C, dx, _, rfl, upd_same, T.cl, T.nP, (by show 1 < 1000; decide), ?_⟩
    refine k _ (Eq.trans upd_same (congrArg (fun q => some (HO.ins C dx q)) (lF_put r l))) fun b o e hb => ?_
    rw [upd_ne hb, upd_ne hb]
    exact e
end
end PL
namespace PL
open PySem PySem.Spec PyProof.Rows L2 Evl
open Geo (Seg pz PLine Cand Tri Off)
/-! ### the map -/
/-- what the top has written of the class Map -/
structure TM (K : PySem.W.Frag) (mg : Str → Option Value) (C : Addr) : Prop where
  cl : Cls K C
  nL : NoAttr K C "lines"
  gC : mg "Map" = some (.ref C)
def mF (l : Addr) : List (Str × V) := [("lines", .ref l)]
theorem mF_lines (l : Addr) : (mF l).lookup ("lines" : Str) = some (.ref l) := by
  have e : (("lines" : Str) == "lines") = true := beq_self_eq_true _
  simp only [mF, List.lookup, e]
theorem mF_no (l : Addr) {m : Str} (h : (m == "lines") = false) : (mF l).lookup m = none := by
  simp only [mF, List.lookup, h]
/-- a line, its points in another list than D -/
def LineX (C D G : Addr) (H : Hp) (v : V) (q : PLine) : Prop := ∃ a dx l, v = .ref a ∧ H a = some (.ins C dx (lF q.1 l)) ∧ (l ≠ D ∧ l ≠ G) ∧ Ls Pl H (.ref l) q.2
theorem LineX.line {C D G : Addr} {H : Hp} {v : V} {q : PLine} (h : LineX C D G H v q) : LineAt C H v q := by
  obtain ⟨a, dx, l, h1, h2, _, h3⟩ := h
  exact ⟨a, dx, l, h1, h2, h3⟩
/-- all but D is as it was -/
def Kp (D : Addr) (H H' : Hp) : Prop := ∀ b o, b ≠ D → H b = some o → H' b = some o
theorem Kp.of {D : Addr} {H H' : Hp} (e : Ex H H') : Kp D H H' := fun b o _ h => e b o h
theorem Kp.refl (D : Addr) (H : Hp) : Kp D H H := fun _ _ _ h => h
theorem Kp.trans {D : Addr} {H H1 H2 : Hp} (a : Kp D H H1) (b : Kp D H1 H2) : Kp D H H2 := fun c o n h => b c o n (a c o n h)
theorem Kp.upd {D : Addr} {H : Hp} {o : HO} : Kp D H (upd H D o) := fun b u n h => by
  rw [upd_ne n]
  exact h
theorem LineX.kp {C D G : Addr} {H H' : Hp} {acc : List V} (hD : H D = some (.lst acc)) (e : Kp D H H') {v : V} {q : PLine} (h : LineX C D G H v q) : LineX C D G H' v q := by
  obtain ⟨a, dx, l, h1, h2, h3, ⟨l', vs, h4, h5, h6⟩⟩ := h
  cases h4
  have et : ExT H H' := fun a xs z => e a _ (ne_of z hD (by intro z; cases z)) z
  exact ⟨a, dx, l, h1, e _ _ (ne_of h2 hD (by intro z; cases z)) h2, h3, l, vs, rfl, e _ _ h3.1 h5, h6.mono fun v x r => r.exT et⟩
/-- the map at m, its lines in the list at l -/
structure MapAt (CM CL G : Addr) (H : Hp) (m l : Addr) (L : List PLine) : Prop where
  ob : ∃ dx, H m = some (.ins CM dx (mF l))
  ls : ∃ vs, H l = some (.lst vs) ∧ Each (LineX CL l G H) vs L
  gv : ∃ o, H G = some o
theorem MapAt.ex {CM CL G : Addr} {H H' : Hp} {m l : Addr} {L : List PLine} (e : Ex H H') (h : MapAt CM CL G H m l L) : MapAt CM CL G H' m l L := by
  obtain ⟨dx, h1⟩ := h.ob
  obtain ⟨vs, h2, h3⟩ := h.ls
  obtain ⟨o, ho⟩ := h.gv
  exact ⟨⟨dx, e _ _ h1⟩, ⟨vs, e _ _ h2, h3.mono fun v q r => r.kp h2 (Kp.of e)⟩, o, e _ _ ho⟩
theorem MapAt.lines {CM CL G : Addr} {H : Hp} {m l : Addr} {L : List PLine} (h : MapAt CM CL G H m l L) : Ls (LineAt CL) H (.ref l) L := by
  obtain ⟨vs, h2, h3⟩ := h.ls
  exact ⟨l, vs, rfl, h2, h3.mono fun v q r => r.line⟩
/-- the list of lines written -/
theorem MapAt.write {CM CL G : Addr} {H : Hp} {m l : Addr} {L L' : List PLine} {us : List V} (h : MapAt CM CL G H m l L) (hE : Each (LineX CL l G H) us L') : MapAt CM CL G (upd H l (.lst us)) m l L' := by
  obtain ⟨dx, h1⟩ := h.ob
  obtain ⟨vs, h2, h3⟩ := h.ls
  have ne : m ≠ l := ne_of h1 h2 (by intro z; cases z)
  obtain ⟨o, ho⟩ := h.gv
  refine ⟨⟨dx, by rw [upd_ne ne]; exact h1⟩, ⟨us, upd_same, hE.mono fun v q r => r.kp h2 Kp.upd⟩, ?_⟩
  by_cases e : G = l
  · exact ⟨_, by rw [e]; exact upd_same⟩
  · exact ⟨o, by rw [upd_ne e]; exact ho⟩
theorem ev_lines {K : PySem.W.Frag} {mg : Str → Option Value} {CM CL G : Addr} {σ : L2.St} {H : Hp} {te : TE} {m l : Addr} {L : List PLine} (T : TM K mg CM) (h : Ev te σ H (.ref m)) (M : MapAt CM CL G H m l L) : Ev (tFld K te "lines") σ H (.ref l) := by
  obtain ⟨dx, h1⟩ := M.ob
  exact ev_fld h h1 T.cl T.nL (mF_lines l)
theorem ev_lenLines {K : PySem.W.Frag} {mg : Str → Option Value} {CM CL G : Addr} {σ : L2.St} {H : Hp} {te : TE} {m l : Addr} {L : List PLine} (T : TM K mg CM) (h : Ev te σ H (.ref m)) (M : MapAt CM CL G H m l L) : Ev (tCB (rLenS K) (tCons (tFld K te "lines") tNil)) σ H (.int (L.length : Int)) := by
  obtain ⟨vs, h2, h3⟩ := M.ls
  exact ev_is (ev_len (K := K) (ev_lines T h M) (sq_of h2)) (by rw [h3.length])
theorem ev_any {K : PySem.W.Frag} {σ : L2.St} {H : Hp} {tl : TE} {bs : List Bool} (h : EvL tl σ H (bs.map V.bl)) : Ev (tCB (rAny K) (tCons tl tNil)) σ H (.bl (bs.any id)) := fun H1 e Q q =>
  h H1 e _ fun p H2 _ e2 h2 => ⟨p, bs, rfl, sq_of h2, q H2 e2⟩
/-- what a call hands back: a new list of whole numbers, the map behind it -/
def RetM (CM CL G : Addr) (m l : Addr) (L' : List PLine) (ans : List Int) (H : Hp) (Q : VK) : Prop := ∀ H' p, Kp l H H' → MapAt CM CL G H' m l L' → H p = none → H' p = some (.lst (ans.map V.int)) → Q (.ref p) H'
theorem retM_of {CM CL G : Addr} {m l : Addr} {L : List PLine} {ans : List Int} {H H1 : Hp} {Q : VK} (k : RetM CM CL G m l L ans H Q) (e : Ex H H1) (M : MapAt CM CL G H1 m l L) : RetL (ans.map V.int) H1 Q := fun p H2 hp e2 h2 => k H2 p (Kp.of (e.trans e2)) (M.ex e2) (fresh_back e hp) h2
theorem s_retM {σ : L2.St} {H H1 : Hp} {te : TE} {D : Ends} {CM CL G : Addr} {m l : Addr} {L : List PLine} {ans : List Int} {xs : List V} (k : RetM CM CL G m l L ans H D.rt) (e : Ex H H1) (M : MapAt CM CL G H1 m l L) (h : EvL te σ H1 xs) (hx : xs = ans.map V.int) : tRet te D σ H1 := by
  subst hx
  exact s_retL h fun p H2 hp e2 h2 => retM_of k e M p H2 hp e2 h2
/-- a method of the map, that keeps its promise -/
structure Mn (P : Program) (w : World) (K : PySem.W.Frag) (mg : Str → Option Value) (base : Heap) (C : Addr) (k : Nat) (x : Str) (ps : List Str) (sp : Sp) : Prop where
  ex : ∃ f fd, FnOk P w K mg base CX0 k f fd ps sp ∧ Meth K C x f ∧ Binds K fd ps []
/-! ### Map() -/
abbrev sMapInit : Stmt := inClass (top 50) 0
def spMapInit (CM : Addr) : Sp := fun vs H Q _ => ∃ (H0 : Hp) (m dx : Addr), vs = [.ref m] ∧ Ex H0 H ∧ H0 m = none ∧ H m = some (.ins CM dx []) ∧ ∀ H' l, Ex H0 H' → H0 l = none → (∃ dx, H' m = some (.ins CM dx (mF l))) → H' l = some (.lst []) → Q .non H'
section
variable {P : Program} {w : World} {K : PySem.W.Frag} {mg : Str → Option Value} {base : Heap} {CM CL : Addr}
theorem scMapInit : FnScope ["self"] ["self"] (defScope sMapInit) := ⟨rfl, rfl, rfl, by decide +kernel, rfl, by decide +kernel, by decide +kernel⟩
theorem ok_mapInit {f : Addr} {fd : FuncData} (F : Fun K "__init__" "Map.__init__" sMapInit f fd) (T : TM K mg CM) : FnOk P w K mg base CX0 1 f fd ["self"] (spMapInit CM) := by
  refine F.ok scMapInit (fun vs H Q E h => ?_) (fun cdv A outer s H vs Q E hr h => ?_)
  · obtain ⟨H0, m, dx, rfl, _⟩ := h
    rfl
  · obtain ⟨H0, m, dx, rfl, e0, hm0, hm, k⟩ := h
    refine ⟨_, pss_one (ps_fld (pv 0) (pe_lst pa_nil) rfl), ?_⟩
    refine ⟨Nat.zero_le _, fun l hl => ?_⟩
    have ne : m ≠ l := ne_of_none hm hl
    refine ⟨_, rfl, m, CM, dx, [], rfl, (by rw [upd_ne ne]; exact hm), T.cl, T.nL, (by show 0 < 1000; decide), ?_⟩
    refine k _ l ?_ (fresh_back e0 hl) ⟨dx, upd_same⟩ (by rw [upd_ne ne.symm, upd_same])
    exact Ex.mut (e0.trans (Ex.new hl)) hm0
/-! ### line -/
abbrev sMLine : Stmt := inClass (top 50) 1
/-- what line answers, and the map behind it -/
def lineAns (L : List PLine) (r : Nat) (l : List Nat) : List PLine × List Int :=
  if Geo.granted r l = false then (L, [-1]) else if Geo.sound (Geo.newLine r l).1 (Geo.newLine r l).2 = false then (L, [-2])
  else if (L.any fun o => Geo.linesMeet (Geo.sidesOf (Geo.newLine r l).1 (Geo.newLine r l).2) (Geo.sidesOf o.1 o.2)) = true then (L, [-6])
  else if 4 ≤ L.length then (L, [-5]) else (L ++ [Geo.newLine r l], [(L.length : Int)])
def spMLine (CM CL : Addr) : Sp := fun vs H Q _ => ∃ (G m l : Addr) (r : Nat) (n : V) (L : List PLine) (row : List Nat), vs = [.ref m, .int (r : Int), n] ∧ MapAt CM CL G H m l L ∧ NatL H n row ∧ row.length ≤ 1300 ∧ LinesOk L ∧ (∀ b, n = .ref b → b ≠ l) ∧ RetM CM CL G m l (lineAns L r row).1 (lineAns L r row).2 H Q
theorem newLine_ok {r : Nat} {l : List Nat} (h : Geo.granted r l = true) : LineOk (Geo.newLine r l) := by
  obtain ⟨g1, g2, g3, g4, g5, g6⟩ := Geo.granted_len h
  refine ⟨⟨g1, g2⟩, fun p hp => ?_⟩
  exact Geo.placesOf_mem l (fun n hn => of_decide_eq_true (List.all_eq_true.mp g6 n hn)) p hp
theorem scMLine : FnScope ["self", "ring", "numbers", "line", "other"] ["self", "ring", "numbers"] (defScope sMLine) := ⟨rfl, rfl, rfl, by decide +kernel, rfl, by decide +kernel, by decide +kernel⟩
theorem ok_mline {f fI : Addr} {fd fdI : FuncData} (F : Fun K "line" "Map.line" sMLine f fd) (B : Bi mg) (N : Cn mg) (T : TM K mg CM) (TLn : TL K mg CL) (DG : dGrant P w K mg base) (DF : dFrom P w K mg base) (DS : dSound CL P w K mg base) (DL : dLm CL P w K mg base)
    (MK : Mk K CL fI) (GI : FnOk P w K mg base CX0 1 fI fdI ["self", "ring", "points"] (spLineInit CL)) (bI : Binds K fdI ["self", "ring", "points"] []) : FnOk P w K mg base CX0 6 f fd ["self", "ring", "numbers"] (spMLine CM CL) := by
  refine F.ok scMLine (fun vs H Q E h => ?_) (fun cdv A outer s H vs Q E hr h => ?_)
  · obtain ⟨G, m, l, r, n, L, row, rfl, _⟩ := h
    rfl
  · obtain ⟨G, m, l, r, n, L, row, rfl, M, hn, hrl, ok, hnl, k⟩ := h
    obtain ⟨t1, g1⟩ := N.ng
    obtain ⟨t2, g2⟩ := N.ns
    obtain ⟨t3, g3⟩ := N.lm
    obtain ⟨t4, g4⟩ := N.tm
    obtain ⟨t5, g5⟩ := N.mln
    have hr2 : Room 2 _ := hr.mono (by decide)
    refine ⟨_, pss_cons (ps_if (pt_not (pt_val (pe_d DG hr (by decide) rfl (pa_cons (pv 1) (pa_cons (pv 2) pa_nil))))) (pss_one (ps_ret (pe_lst (pa_cons (pe_glob (v := .int (-1)) rfl g1 ⟨_, rfl⟩) pa_nil)))) pss_nil)
      (pss_cons (ps_set (i := 3) scMLine.nd rfl (Or.inr rfl) (pe_make MK GI hr2 rfl TLn.gC bI .nil pass0 (pa_cons (pe_cmpR op_eq (pv 1) pe_int (nomark _)) (pa_cons (pe_d DF hr (by decide) rfl (pa_cons (pv 2) pa_nil)) pa_nil))))
      (pss_cons (ps_if (pt_not (pt_val (pe_d DS hr (by decide) rfl (pa_cons (pv 3) pa_nil)))) (pss_one (ps_ret (pe_lst (pa_cons (pe_glob (v := .int (-2)) rfl g2 ⟨_, rfl⟩) pa_nil)))) pss_nil)
      (pss_cons (ps_if (pt_val (pe_callB (cr_any rfl) (by rfl) B.any (by decide +kernel) (pa_cons
          (pe_lc (own := [("other", 4)]) (g := gName 4) (tt := tYes) (te := tCall (spLm CL) [] E0 (tCons (tVar 3) (tCons (tVar 4) tNil))) rfl scMLine.nd (pi_list (pe_fld (pv 0) rfl)) (blkOk_by (N := ["self", "ring", "numbers", "line", "other"]) (sc := defScope sMLine) (by decide +kernel))
            (fun _ _ _ _ _ => pg_name (i := 4) scMLine.nd rfl (Or.inl rfl)) (fun _ _ _ _ _ => pts_nil) (fun _ _ _ _ _ => pe_d DL hr (by decide) rfl (pa_cons (pv 3) (pa_cons (pv 4) pa_nil)))) pa_nil))) (pss_one (ps_ret (pe_lst (pa_cons (pe_glob (v := .int (-6)) rfl g3 ⟨_, rfl⟩) pa_nil)))) pss_nil)
      (pss_cons (ps_if (pt_cmpR op_eq (pe_callB call_len_seq (by rfl) B.len PySem.boot_len (pa_cons (pe_fld (pv 0) rfl) pa_nil)) (pe_glob (v := .int 4) rfl g5 ⟨_, rfl⟩) (nomark _)) (pss_one (ps_ret (pe_lst (pa_cons (pe_glob (v := .int (-5)) rfl g4 ⟨_, rfl⟩) pa_nil)))) pss_nil)
      (pss_cons (ps_expr (pe_bm PySem.F.plainAttrs_list PySem.F.slot_list_append PySem.F.type_list_append mt_append (pe_fld (pv 0) rfl) (pa_cons (pv 3) pa_nil)))
      (pss_one (ps_ret (pe_lst (pa_cons (pe_op op_sub (pe_callB call_len_seq (by rfl) B.len PySem.boot_len (pa_cons (pe_fld (pv 0) rfl) pa_nil)) pe_int) pa_nil))))))))), ?_⟩
    unfold lineAns at k
    refine q_when (et_not (et_B (ev_call (ea_cons (ev_var rfl) (ea_cons (ev_var rfl) ea_nil)) (svGrant hn hrl)))) (fun hc H1 e1 => ?_) (fun hc H1 e1 => ?_)
    · have hg : Geo.granted r row = false := by simpa using hc
      rw [if_pos hg] at k
      exact s_retM (D := { nx := _, rt := Q }) k e1 (M.ex e1) (el_lst (ea_cons ev_c ea_nil) (by show 1 ≤ 100000; decide)) rfl
    have hg : Geo.granted r row = true := by simpa using hc
    rw [if_neg (by rw [hg]; decide)] at k
    obtain ⟨gl1, gl2, gl3, gl4, gl5, gl6⟩ := Geo.granted_len hg
    -- line = Line(ring == 1, places_from(numbers))
    refine (ev_op (ta := tVar 1) (tb := tC (.int 1)) (r := rEq) (ev_var (v := .int (r : Int)) rfl) ev_c (rv_eq rfl)) H1 (Ex.refl H1) _ fun H2 e2 => ?_
    refine (en_call (sp := spFrom) (E := E0) (dvs := []) (ta := tCons (tVar 2) tNil) (ea_cons (ev_var (v := n) rfl) ea_nil) (snFrom (hn.ex (e1.trans e2)) gl5 hrl)) H2 (Ex.refl H2) _ fun pp pvs H3 hpp e3 h3 hE3 => ?_
    intro x dx hx hdx hne
    have e03 := (e1.trans e2).trans e3
    refine ⟨x, dx, pp, _, rfl, upd_same, fun H4 h4 kp4 => ⟨rfl, ?_⟩⟩
    have e34 : Ex H3 H4 := fun b o hb => kp4 b o (by rw [upd_ne (ne_of_none hb hx), upd_ne (ne_of_none hb hdx)]; exact hb) (ne_of_none hb hx)
    have e04 := e03.trans e34
    have hring : decide (V.int (r : Int) = V.int 1) = (r == 1) := by
      rw [decV, Bool.eq_iff_iff, decide_eq_true_iff, beq_iff_eq]
      omega
    rw [hring] at h4
    have ppl : pp ≠ l := fun z => by
      obtain ⟨vs, hl, _⟩ := M.ls
      have := (e1.trans e2) _ _ hl
      rw [← z, hpp] at this
      cases this
    have ppg : pp ≠ G := fun z => by
      obtain ⟨o, hl⟩ := M.gv
      have := (e1.trans e2) _ _ hl
      rw [← z, hpp] at this
      cases this
    have LX : LineX CL l G H4 (.ref x) (Geo.newLine r row) := ⟨x, dx, pp, rfl, h4, ⟨ppl, ppg⟩, pp, pvs, rfl, e34 _ _ h3, hE3.mono fun v p z => z.ex e34⟩
    have okN := newLine_ok hg
    show tSeq _ _ _ _ _
    refine q_when (et_not (et_B (ev_call (ea_cons (ev_var rfl) ea_nil) (svSound LX.line okN)))) (fun hc H5 e5 => ?_) (fun hc H5 e5 => ?_)
    · have hs : Geo.sound (Geo.newLine r row).1 (Geo.newLine r row).2 = false := by simpa using hc
      rw [if_pos hs] at k
      exact s_retM (D := { nx := _, rt := Q }) k (e04.trans e5) (M.ex (e04.trans e5)) (el_lst (ea_cons ev_c ea_nil) (by show 1 ≤ 100000; decide)) rfl
    have hs : Geo.sound (Geo.newLine r row).1 (Geo.newLine r row).2 = true := by simpa using hc
    rw [if_neg (by rw [hs]; decide)] at k
    have e05 := e04.trans e5
    have M5 := M.ex e05
    have LX5 : LineX CL l G H5 (.ref x) (Geo.newLine r row) := by
      obtain ⟨vs, hl, _⟩ := (M.ex e04).ls
      exact LX.kp hl (Kp.of e5)
    obtain ⟨ls, hl5, hE5⟩ := M5.ls
    have lenls := hE5.length
    have few := ok.few
    -- any([lines_meet(line, other) for other in self.lines])
    have evany : Ev (tCB (rAny K) (tCons (tLc (iList K (tFld K (tVar 0) "lines")) (gName 4) tYes (tCall (spLm CL) [] E0 (tCons (tVar 3) (tCons (tVar 4) tNil))) [4]) tNil)) [some (.ref m), some (.int (r : Int)), some n, some (.ref x), none] H5 (.bl (L.any fun o => Geo.linesMeet (Geo.sidesOf (Geo.newLine r row).1 (Geo.newLine r row).2) (Geo.sidesOf o.1 o.2))) := by
      have el : EvL (tLc (iList K (tFld K (tVar 0) "lines")) (gName 4) tYes (tCall (spLm CL) [] E0 (tCons (tVar 3) (tCons (tVar 4) tNil))) [4]) [some (.ref m), some (.int (r : Int)), some n, some (.ref x), none] H5
          (given ls.length (fun _ => true) (fun i => .bl (Geo.linesMeet (Geo.sidesOf (Geo.newLine r row).1 (Geo.newLine r row).2) (Geo.sidesOf (L.getD i (false, [])).1 (L.getD i (false, [])).2)))) := by
        refine el_lcL (K := K) (xs := ls) (fun _ => true) _ (ev_lines T (ev_var rfl) M5) (sq_of hl5) (by omega) (fun x => rfl) (fun i y Hx ex hi => et_yes) (fun i y Hx ex hi _ => ?_)
        obtain ⟨q, hq1, hq2⟩ := hE5.get hi
        have : L.getD i (false, []) = q := by rw [List.getD_eq_getElem?_getD, hq1]; rfl
        rw [this]
        exact ev_call (ea_cons (ev_var rfl) (ea_cons (ev_var rfl) ea_nil)) (svLm (LX5.line.ex ex) (hq2.line.ex ex) okN (ok.ok q (List.mem_of_getElem? hq1)))
      rw [given_all (g := fun o : PLine => V.bl (Geo.linesMeet (Geo.sidesOf (Geo.newLine r row).1 (Geo.newLine r row).2) (Geo.sidesOf o.1 o.2))) lenls] at el
      refine ev_is (ev_any (bs := L.map fun o => Geo.linesMeet (Geo.sidesOf (Geo.newLine r row).1 (Geo.newLine r row).2) (Geo.sidesOf o.1 o.2)) ?_) ?_
      · rw [List.map_map]
        exact el
      · rw [List.any_map]
        rfl
    refine q_when (et_B evany) (fun hc H6 e6 => ?_) (fun hc H6 e6 => ?_)
    · rw [if_pos hc] at k
      exact s_retM (D := { nx := _, rt := Q }) k (e05.trans e6) (M.ex (e05.trans e6)) (el_lst (ea_cons ev_c ea_nil) (by show 1 ≤ 100000; decide)) rfl
    rw [if_neg (by rw [hc]; decide)] at k
    have e06 := e05.trans e6
    have M6 := M.ex e06
    refine q_when (et_is (et_test (ev_op (ev_lenLines T (ev_var rfl) M6) ev_c (rv_eq rfl))) (decV _ _)) (fun hc2 H7 e7 => ?_) (fun hc2 H7 e7 => ?_)
    · have := of_decide_eq_true hc2
      rw [if_pos (by omega)] at k
      exact s_retM (D := { nx := _, rt := Q }) k (e06.trans e7) (M.ex (e06.trans e7)) (el_lst (ea_cons ev_c ea_nil) (by show 1 ≤ 100000; decide)) rfl
    have lt4 := of_decide_eq_false hc2
    rw [if_neg (by omega)] at k
    have e07 := e06.trans e7
    have M7 := M.ex e07
    obtain ⟨ls7, hl7, hE7⟩ := M7.ls
    have len7 := hE7.length
    refine q_app (K := K) (l := l) (xs := ls7) hl7 (ev_lines T (ev_var rfl) M7) (ev_var rfl) (by omega) fun H8 e8 => ?_
    have M8 := M7.ex e8
    obtain ⟨ls8, hl8, hE8⟩ := M8.ls
    have e : ls8 = ls7 := by
      rw [e8 _ _ hl7] at hl8
      cases hl8
      rfl
    subst e
    have LX8 : LineX CL l G H8 (.ref x) (Geo.newLine r row) := LX5.kp hl5 (Kp.of ((e6.trans e7).trans e8))
    have M9 := M8.write (Each.snoc LX8 hE8)
    refine s_retL (D := { nx := _, rt := Q }) (el_lst (ea_cons (ev_op (ev_lenLines T (ev_var rfl) M9) ev_c rv_I0) ea_nil) (by show 1 ≤ 100000; decide)) fun p H9 hp e9 h9 => ?_
    refine k H9 p ((Kp.of (e07.trans e8)).trans (Kp.upd.trans (Kp.of e9))) (M9.ex e9) ?_ ?_
    · have np : p ≠ l := fun z => by rw [z, upd_same] at hp; cases hp
      rw [upd_ne np] at hp
      exact fresh_back (e07.trans e8) hp
    · rw [h9]
      congr 2
      show [V.int _] = [V.int _]
      congr 2
      rw [List.length_append, List.length_singleton]
      omega
end
end PL
namespace PL
open PySem PySem.Spec PyProof.Rows L2 Evl
open Geo (Seg pz PLine Cand Tri Off)
/-! ### drop -/
abbrev sMDrop : Stmt := inClass (top 50) 2
def dropAns (L : List PLine) (k : Nat) : List PLine × List Int := if L.length ≤ k then (L, [-3]) else (L.eraseIdx k, [((L.length - 1 : Nat) : Int)])
def spMDrop (CM CL : Addr) : Sp := fun vs H Q _ => ∃ (G m l : Addr) (k : Nat) (L : List PLine), vs = [.ref m, .int (k : Int)] ∧ MapAt CM CL G H m l L ∧ LinesOk L ∧ RetM CM CL G m l (dropAns L k).1 (dropAns L k).2 H Q
theorem Each.eraseIdx {α : Type} {R : V → α → Prop} : ∀ {vs : List V} {xs : List α} (i : Nat), Each R vs xs → Each R (vs.eraseIdx i) (xs.eraseIdx i)
  | [], [], _, _ => trivial
  | _ :: _, _ :: _, 0, h => h.2
  | _ :: _, _ :: _, i + 1, h => ⟨h.1, Each.eraseIdx i h.2⟩
  | [], _ :: _, _, h => h.elim
  | _ :: _, [], _, h => h.elim
theorem q_pop {K : PySem.W.Frag} {σ : L2.St} {H : Hp} {ta tb : TE} {tz : TS} {D : Ends} {l : Addr} {xs : List V} {n : Nat} (ha : Ev ta σ H (.ref l)) (hk : Ev tb σ H (.int (n : Int))) (hl : H l = some (.lst xs)) (hn : n < xs.length) (hs : xs.length ≤ 100000)
    (k : ∀ H1, Ex H H1 → tz D σ (upd H1 l (.lst (xs.eraseIdx n)))) : tSeq (tDrop (tBM K "list" rPopAt ta (tCons tb tNil))) tz D σ H := ha H (Ex.refl H) _ fun H1 e1 =>
  ⟨Or.inl ⟨rfl, _, sq_of (e1 _ _ hl)⟩, hk H1 e1 _ fun H2 e2 => ⟨l, xs, (n : Int), n, xs[n], rfl, rfl, e2 _ _ (e1 _ _ hl), by omega, by omega, (ixN_seq (ixN_nat hn)).1, List.getElem?_eq_getElem hn, k H2 (e1.trans e2)⟩⟩
section
variable {P : Program} {w : World} {K : PySem.W.Frag} {mg : Str → Option Value} {base : Heap} {CM CL : Addr}
theorem scMDrop : FnScope ["self", "k"] ["self", "k"] (defScope sMDrop) := ⟨rfl, rfl, rfl, by decide +kernel, rfl, by decide +kernel, by decide +kernel⟩
theorem ok_mdrop {f : Addr} {fd : FuncData} (F : Fun K "drop" "Map.drop" sMDrop f fd) (B : Bi mg) (N : Cn mg) (T : TM K mg CM) : FnOk P w K mg base CX0 1 f fd ["self", "k"] (spMDrop CM CL) := by
  refine F.ok scMDrop (fun vs H Q E h => ?_) (fun cdv A outer s H vs Q E hr h => ?_)
  · obtain ⟨G, m, l, k, L, rfl, _⟩ := h
    rfl
  · obtain ⟨G, m, l, n, L, rfl, M, ok, k⟩ := h
    obtain ⟨t1, g1⟩ := N.nl
    have few := ok.few
    refine ⟨_, pss_cons (ps_if (pt_cmpR op_ge (pv 1) (pe_callB call_len_seq (by rfl) B.len PySem.boot_len (pa_cons (pe_fld (pv 0) rfl) pa_nil)) (nomark _)) (pss_one (ps_ret (pe_lst (pa_cons (pe_glob (v := .int (-3)) rfl g1 ⟨_, rfl⟩) pa_nil)))) pss_nil)
      (pss_cons (ps_expr (pe_bm PySem.F.plainAttrs_list PySem.F.slot_list_pop PySem.F.type_list_pop mt_popAt (pe_fld (pv 0) rfl) (pa_cons (pv 1) pa_nil)))
      (pss_one (ps_ret (pe_lst (pa_cons (pe_callB call_len_seq (by rfl) B.len PySem.boot_len (pa_cons (pe_fld (pv 0) rfl) pa_nil)) pa_nil))))), ?_⟩
    unfold dropAns at k
    refine q_when (et_test (ev_op (ev_var rfl) (ev_lenLines T (ev_var rfl) M) rv_I0)) (fun hc H1 e1 => ?_) (fun hc H1 e1 => ?_)
    · have := of_decide_eq_true hc
      rw [if_pos (by omega)] at k
      exact s_retM (D := { nx := _, rt := Q }) k e1 (M.ex e1) (el_lst (ea_cons ev_c ea_nil) (by show 1 ≤ 100000; decide)) rfl
    have hlt := of_decide_eq_false hc
    rw [if_neg (by omega)] at k
    have M1 := M.ex e1
    obtain ⟨ls, hl1, hE1⟩ := M1.ls
    have len := hE1.length
    have hn : n < ls.length := by omega
    refine q_pop (K := K) (l := l) (xs := ls) (n := n) (ev_lines T (ev_var rfl) M1) (ev_var rfl) hl1 hn (by omega) fun H2 e2 => ?_
    have M2 := M1.ex e2
    have hE : Each (LineX CL l G H2) ls L := hE1.mono fun v q r => r.kp hl1 (Kp.of e2)
    have M3 := M2.write (Each.eraseIdx n hE)
    refine s_retL (D := { nx := _, rt := Q }) (el_lst (ea_cons (ev_lenLines T (ev_var rfl) M3) ea_nil) (by show 1 ≤ 100000; decide)) fun p H4 hp e4 h4 => ?_
    refine k H4 p ((Kp.of (e1.trans e2)).trans (Kp.upd.trans (Kp.of e4))) (M3.ex e4) ?_ ?_
    · have np : p ≠ l := fun z => by rw [z, upd_same] at hp; cases hp
      rw [upd_ne np] at hp
      exact fresh_back (e1.trans e2) hp
    · rw [h4, List.length_eraseIdx_of_lt (by omega)]
      rfl
end
/-! ### order -/
abbrev sMOrder : Stmt := inClass (top 50) 3
def spMOrder (CM CL : Addr) : Sp := fun vs H Q _ => ∃ (G m l : Addr) (L : List PLine), vs = [.ref m] ∧ MapAt CM CL G H m l L ∧ LinesOk L ∧ RetM CM CL G m l L (Geo.ordInts (Mm01.order (specL L))) H Q
theorem order_len {L : List PLine} (ok : LinesOk L) : (Mm01.order (specL L)).length ≤ 48 := by
  have key : ∀ (f w : Nat) (ls : List Mm01.Line), (Mm01.goes f w ls).length ≤ Mm01.count ls := by
    intro f
    induction f with
    | zero => intro w ls; exact Nat.zero_le _
    | succ f ih =>
      intro w ls
      cases e : Mm01.next ls with
      | none => rw [Geo.goes_none e]; exact Nat.zero_le _
      | some y =>
        obtain ⟨c, k, i⟩ := y
        rw [Geo.goes_succ e, List.length_cons]
        obtain ⟨h1, h2, _⟩ := Geo.next_some_inv e
        have := Geo.count_takeOut (i := i) h1 h2
        have := ih (max w c) (Mm01.takeOut ls k i)
        omega
  have h1 := key (Mm01.count (specL L) + 1) 0 (specL L)
  have h2 := count_le ok.full
  rw [Geo.lsOf_full] at h2
  exact Nat.le_trans h1 h2
section
variable {P : Program} {w : World} {K : PySem.W.Frag} {mg : Str → Option Value} {base : Heap} {CM CL : Addr}
theorem scMOrder : FnScope ["self", "goings", "answer", "going"] ["self"] (defScope sMOrder) := ⟨rfl, rfl, rfl, by decide +kernel, rfl, by decide +kernel, by decide +kernel⟩
theorem ok_morder {f : Addr} {fd : FuncData} (F : Fun K "order" "Map.order" sMOrder f fd) (B : Bi mg) (T : TM K mg CM) (DG : dGo CL P w K mg base) : FnOk P w K mg base CX0 6 f fd ["self"] (spMOrder CM CL) := by
  refine F.ok scMOrder (fun vs H Q E h => ?_) (fun cdv A outer s H vs Q E hr h => ?_)
  · obtain ⟨G, m, l, L, rfl, _⟩ := h
    rfl
  · obtain ⟨G, m, l, L, rfl, M, ok, k⟩ := h
    refine ⟨_, pss_cons (ps_set (i := 1) scMOrder.nd rfl (Or.inl rfl) (pe_d DG hr (by decide) rfl (pa_cons (pe_fld (pv 0) rfl) pa_nil)))
      (pss_cons (ps_set (i := 2) scMOrder.nd rfl (Or.inl rfl) (pe_lst (pa_cons (pe_callB call_len_seq (by rfl) B.len PySem.boot_len (pa_cons (pv 1) pa_nil)) pa_nil)))
      (pss_cons (ps_for PassesOwn.never rfl (pi_list (pv 1)) (pg_name (i := 3) scMOrder.nd rfl (Or.inl rfl))
        (pss_one (ps_expr (pe_bm PySem.F.plainAttrs_list PySem.F.slot_list_extend PySem.F.type_list_extend mt_extend (pv 2) (pa_cons (pe_callTy call_list_of (by rfl) B.list (by decide +kernel) (pa_cons (pv 3) pa_nil)) pa_nil)))))
      (pss_one (ps_ret (pv 2))))), ?_⟩
    generalize ho : Mm01.order (specL L) = o at k
    have olen : o.length ≤ 48 := by rw [← ho]; exact order_len ok
    refine q_asgN (R := GoAt) (xs := o) (by rw [← ho]; exact en_call (ea_cons (ev_lines T (ev_var rfl) M) ea_nil) (snGo M.lines ok)) fun g gs H1 hg e1 h1 hE => ?_
    have glen := hE.length
    refine q_asgL (el_lst (ea_cons (ev_len (K := K) (ev_var rfl) (sq_of h1)) ea_nil) (by show 1 ≤ 100000; decide)) fun D H2 hD e2 d2 => ?_
    have gD : g ≠ D := fun z => by rw [z, hD] at h1; cases h1
    have e02 := e1.trans e2
    have hDH : H D = none := fresh_back e1 hD
    refine q_forLn (K := K) (xs := gs) (ev_var rfl) (sq_of (e2 _ _ h1)) (fun i σ' H' => (∃ x3, σ' = [some (.ref m), some (.ref g), some (.ref D), x3]) ∧ Ex H H' ∧ H' g = some (.lst gs) ∧ ExT H2 H' ∧ H' D = some (.lst (((o.length : Int) :: (o.take i).flatMap fun x => [(x.1 : Int), (x.2.1 : Int), (x.2.2 : Int)]).map V.int)))
      (fun H3 e3 => ⟨⟨none, rfl⟩, e02.trans e3, e3 _ _ (e2 _ _ h1), Ex.t e3, by rw [e3 _ _ d2, glen]; rfl⟩) (fun i σ' H' _ z => sq_of z.2.2.1) ?_ ?_
    · rintro i v σ' H' hi ⟨⟨x3, rfl⟩, eH, hgs, et, hd⟩
      obtain ⟨x, hx1, hx2⟩ := hE.get hi
      obtain ⟨a, rfl, ha⟩ := (hx2.ex e2).exT et
      have il := (List.getElem?_eq_some_iff.mp hx1).1
      have bl : ((o.take i).flatMap fun x => [(x.1 : Int), (x.2.1 : Int), (x.2.2 : Int)]).length ≤ 3 * 48 := by
        refine Nat.le_trans (flatMap_len _ 3 (o.take i) (fun _ _ => Nat.le_refl _)) ?_
        rw [List.length_take]
        omega
      refine ⟨_, rfl, Or.inl ⟨rfl, _, sq_of hd⟩, _, rfl, a, _, rfl, Or.inr (st_of ha), fun p hp => ?_⟩
      have pD : p ≠ D := fun z => by rw [z, hd] at hp; cases hp
      refine ⟨D, p, _, _, rfl, rfl, by rw [upd_ne pD.symm]; exact hd, upd_same, sz_of (by rw [List.length_map, List.length_cons]; show _ + 1 + 3 ≤ 100000; omega), ?_⟩
      have eN : Ex H' (upd H' p (.lst [.int (x.1 : Int), .int (x.2.1 : Int), .int (x.2.2 : Int)])) := Ex.new hp
      have hdN := eN _ _ hd
      refine ⟨⟨_, rfl⟩, Ex.mut (eH.trans eN) hDH, by rw [upd_ne gD]; exact eN _ _ hgs, fun b xs z => ExT.upd hdN _ _ (eN _ _ (et _ _ z)), ?_⟩
      rw [upd_same, take_more hx1, List.flatMap_append]
      simp only [List.flatMap_cons, List.flatMap_nil, List.append_nil, List.map_cons, List.map_append, List.map_nil, List.cons_append]
    · rintro σ' H' ⟨⟨x3, rfl⟩, eH, hgs, et, hd⟩
      rw [glen, List.take_length] at hd
      exact s_ret (ev_var rfl) fun H5 e5 => k H5 D (Kp.of (eH.trans e5)) (M.ex (eH.trans e5)) hDH (e5 _ _ hd)
end
end PL
namespace PL
open PySem PySem.Spec PyProof.Rows L2 Evl
open Geo (Seg pz PLine)
theorem getD_sk1 {q : PLine} (ok : LineOk1 q) {i : Nat} (hi : i < q.2.length) : Sk (q.2.getD i pz) := by
  rw [List.getD_eq_getElem?_getD, List.getElem?_eq_getElem hi]
  exact ok.2 _ (List.getElem_mem hi)
theorem sides_sk1 {q : PLine} (ok : LineOk1 q) : ∀ s ∈ Geo.sidesOf q.1 q.2, SkS s := by
  intro s hs
  have ok1 := ok.1
  unfold Geo.sidesOf at hs
  rw [List.mem_append] at hs
  rcases hs with hs | hs
  · obtain ⟨a, b⟩ := s
    have h1 := List.of_mem_zip hs
    exact ⟨ok.2 _ h1.1, ok.2 _ (List.mem_of_mem_drop h1.2)⟩
  · cases hr : q.1 with
    | false => rw [hr] at hs; simp at hs
    | true =>
      rw [hr] at hs
      simp only [if_true, List.mem_singleton] at hs
      rw [hs]
      exact ⟨getD_sk1 ok (by omega), getD_sk1 ok (by omega)⟩
theorem sides_len1 {q : PLine} (ok : LineOk1 q) : (Geo.sidesOf q.1 q.2).length ≤ 12 := by
  have ok1 := ok.1
  rw [Geo.sidesOf_length _ _ (by intro z; rw [z] at ok1; simp at ok1)]
  split <;> omega
section
variable {α : Type} {K : PySem.W.Frag} {σ : L2.St} {H : Hp} {tl te : TE} {R : Hp → V → α → Prop} {ys : List α}
/-- [e for x in a new list] -/
theorem el_lcN {j : Nat} {vs : List Nat} (d : α) (g : α → V) (h : EvN tl σ H R ys) (hz : ys.length ≤ 40000) (hw : ∀ x, wipe ((wipe σ vs).set j (some x)) vs = wipe σ vs)
    (he : ∀ (x : V) (y : α) H1, Ex H H1 → R H1 x y → y ∈ ys → Ev te ((wipe σ vs).set j (some x)) H1 (g y)) : EvL (tLc (iList K tl) (gName j) tYes te vs) σ H (ys.map g) := fun H0 e Q q =>
  h H0 e _ fun a us H1 ha e1 hx hE => ⟨a, rfl, ⟨us, sq_of hx⟩, fun Dl hD =>
    lc_list (xs := us) (Cw H1 (fun _ => true) (fun i => g (ys.getD i d)) Dl) ⟨hD, Ex.new hD, upd_same⟩ (fun i H' _ p => sq_of (p.2.1 a _ hx))
      (fun i x H' hi p => ⟨hw x, cw_turn p (by have := (List.getElem?_eq_some_iff.mp hi).1; have := hE.length; omega) et_yes (fun _ => by
        obtain ⟨y, hy1, hy2⟩ := hE.get hi
        have : ys.getD i d = y := by rw [List.getD_eq_getElem?_getD, hy1]; rfl
        rw [this]
        exact he x y H1 (e.trans e1) hy2 (List.mem_of_getElem? hy1))⟩)
      (fun H' p => q Dl H' (fresh_back e1 p.1) (e1.trans p.2.1) (by rw [p.2.2, given_all hE.length]))⟩
end
section
variable {K : PySem.W.Frag} {σ : L2.St} {H : Hp} {tl te : TE} {ys : List Seg}
/-- [e for a, b in new stretches] -/
theorem el_lcNS {i1 i2 : Nat} {vs : List Nat} (g : Seg → V) (h : EvN tl σ H Sg ys) (hz : ys.length ≤ 40000) (hw : ∀ x y, wipe (((wipe σ vs).set i1 (some x)).set i2 (some y)) vs = wipe σ vs)
    (he : ∀ (u w : V) (s : Seg) H1, Ex H H1 → Pl H1 u s.1 → Pl H1 w s.2 → s ∈ ys → Ev te (((wipe σ vs).set i1 (some u)).set i2 (some w)) H1 (g s)) :
    EvL (tLc (iList K tl) (gTup K 2 (gCons (gName i1) (gCons (gName i2) gNil))) tYes te vs) σ H (ys.map g) := fun H0 e Q q =>
  h H0 e _ fun a us H1 ha e1 hx hE => ⟨a, rfl, ⟨us, sq_of hx⟩, fun Dl hD =>
    lc_list (xs := us) (Cw H1 (fun _ => true) (fun i => g (ys.getD i (pz, pz))) Dl) ⟨hD, Ex.new hD, upd_same⟩ (fun i H' _ p => sq_of (p.2.1 a _ hx))
      (fun i x H' hi p => by
        obtain ⟨y, hy1, ⟨b, u, w, rfl, hb, p1, p2⟩⟩ := hE.get hi
        refine ⟨b, [u, w], rfl, st_of (p.2.1 _ _ hb), rfl, u, [w], rfl, w, [], rfl, rfl, hw u w, ?_⟩
        refine cw_turn p (by have := (List.getElem?_eq_some_iff.mp hi).1; have := hE.length; omega) et_yes (fun _ => ?_)
        have : ys.getD i (pz, pz) = y := by rw [List.getD_eq_getElem?_getD, hy1]; rfl
        rw [this]
        exact he u w y H1 (e.trans e1) p1 p2 (List.mem_of_getElem? hy1))
      (fun H' p => q Dl H' (fresh_back e1 p.1) (e1.trans p.2.1) (by rw [p.2.2, given_all hE.length]))⟩
theorem q_forNS {i1 i2 : Nat} {tz tu : TS} {D : Ends} (h : EvN tl σ H Sg ys) (Pv : Hp → Nat → L2.St → Hp → Prop) (h0 : ∀ H1, Ex H H1 → Pv H1 0 σ H1) (hx : ∀ H1 i σ' H', Pv H1 i σ' H' → Ex H1 H')
    (hs : ∀ H1, Ex H H1 → ∀ (i : Nat) (s : Seg) (u w : V) σ' H', ys[i]? = some s → Pl H' u s.1 → Pl H' w s.2 → Pv H1 i σ' H' → tu { D with nx := Pv H1 (i + 1), ct := Pv H1 (i + 1), bk := tz D } ((σ'.set i1 (some u)).set i2 (some w)) H')
    (hd : ∀ H1, Ex H H1 → ∀ σ' H', Pv H1 ys.length σ' H' → tz D σ' H') : tSeq (tFor (iList K tl) (gTup K 2 (gCons (gName i1) (gCons (gName i2) gNil))) tu) tz D σ H :=
  h H (Ex.refl H) _ fun p vs H1 hp e h1 h2 => ⟨p, rfl, ⟨vs, sq_of h1⟩, for_list (Pv H1) (h0 H1 e) (fun i σ' H' _ q => sq_of ((hx _ _ _ _ q) _ _ h1)) (fun i v σ' H' hi q => by
    obtain ⟨x, hx1, hx2⟩ := h2.get hi
    have ex := hx _ _ _ _ q
    obtain ⟨b, u, w, rfl, hb, p1, p2⟩ := hx2
    exact ⟨b, [u, w], rfl, st_of (ex _ _ hb), rfl, u, [w], rfl, w, [], rfl, rfl, hs H1 e i x u w σ' H' hx1 (p1.ex ex) (p2.ex ex) q⟩) (fun σ' H' q => by
    rw [h2.length] at q
    exact hd H1 e σ' H' q)⟩
theorem ev_sum {tl : TE} {ns : List Int} (h : EvL tl σ H (ns.map V.int)) : Ev (tCB (rSum K) (tCons tl tNil)) σ H (.int ns.sum) := fun H1 e Q q =>
  h H1 e _ fun p H2 _ e2 h2 => ⟨p, ns, rfl, sq_of h2, q H2 e2⟩
end
/-! ### is_on -/
abbrev sIsOn : Stmt := top 13
def onAny (p : Pt) (q : PLine) : Bool := (Geo.sidesOf q.1 q.2).any fun s => Geo.onStretch p s
def spIsOn (C : Addr) : Sp := fun vs H Q _ => ∃ (v c : V) (p : Pt) (q : PLine), vs = [v, c] ∧ Pl H v p ∧ LineAt C H c q ∧ LineOk1 q ∧ Sm p ∧ RetV (.bl (onAny p q)) H Q
theorem svIsOn {C : Addr} {H : Hp} {v c : V} {p : Pt} {q : PLine} (h : Pl H v p) (hc : LineAt C H c q) (ok : LineOk1 q) (sp : Sm p) : SpV (spIsOn C) [v, c] H (.bl (onAny p q)) := fun H1 e Q k E => ⟨v, c, p, q, rfl, h.ex e, hc.ex e, ok, sp, k⟩
section
variable {P : Program} {w : World} {K : PySem.W.Frag} {mg : Str → Option Value} {base : Heap} {C : Addr}
abbrev nIsOn : List Str := ["place", "line", "stretch"]
theorem scIsOn : FnScope nIsOn ["place", "line"] (defScope sIsOn) := ⟨rfl, rfl, rfl, by decide +kernel, rfl, by decide +kernel, by decide +kernel⟩
theorem ok_isOn {f : Addr} {fd : FuncData} (F : Fun K "is_on" "is_on" sIsOn f fd) (B : Bi mg) (DS : dSides C P w K mg base) (DO : dOn P w K mg base) : FnOk P w K mg base CX0 3 f fd ["place", "line"] (spIsOn C) := by
  refine F.ok scIsOn (fun vs H Q E h => ?_) (fun cdv A outer s H vs Q E hr h => ?_)
  · obtain ⟨v, c, p, q, rfl, _⟩ := h
    rfl
  · obtain ⟨v, c, p, q, rfl, hv, hc, ok, sp, k⟩ := h
    refine ⟨_, pss_one (ps_ret (pe_callB (cr_any rfl) (by rfl) B.any (by decide +kernel) (pa_cons
      (pe_lc (own := [("stretch", 2)]) (g := gName 2) (tt := tYes) (te := tCall spOn [] E0 (tCons (tVar 0) (tCons (tVar 2) tNil))) rfl scIsOn.nd (pi_list (pe_d DS hr (by decide) rfl (pa_cons (pv 1) pa_nil))) (blkOk_by (N := nIsOn) (sc := defScope sIsOn) (by decide +kernel))
        (fun _ _ _ _ _ => pg_name (i := 2) scIsOn.nd rfl (Or.inl rfl)) (fun _ _ _ _ _ => pts_nil) (fun _ _ _ _ _ => pe_d DO hr (by decide) rfl (pa_cons (pv 0) (pa_cons (pv 2) pa_nil)))) pa_nil))), ?_⟩
    have el : EvL (tLc (iList K (tCall (spSides C) [] E0 (tCons (tVar 1) tNil))) (gName 2) tYes (tCall spOn [] E0 (tCons (tVar 0) (tCons (tVar 2) tNil))) [2]) [some v, some c, none] H ((Geo.sidesOf q.1 q.2).map fun s => V.bl (Geo.onStretch p s)) := by
      refine el_lcN (R := Sg) (pz, pz) (fun s => V.bl (Geo.onStretch p s)) (en_call (ea_cons (ev_var rfl) ea_nil) (snSides1 hc ok)) (by have := sides_len1 ok; omega) (fun x => rfl) (fun x s H1 e1 hs hm => ?_)
      exact ev_call (ea_cons (ev_var rfl) (ea_cons (ev_var rfl) ea_nil)) (svOn (hv.ex e1) hs sp (sides_sk1 ok s hm).sm)
    refine s_ret (v := .bl (onAny p q)) (ev_is (ev_any (bs := (Geo.sidesOf q.1 q.2).map fun s => Geo.onStretch p s) ?_) ?_) k
    · rw [List.map_map]
      exact el
    · rw [List.any_map]
      rfl
end
abbrev dIsOn (C : Addr) (P : Program) (w : World) (K : PySem.W.Frag) (mg : Str → Option Value) (base : Heap) : Prop := Dn P w K mg base 3 "is_on" ["place", "line"] (spIsOn C)
/-! ### doubled_area -/
abbrev sArea : Stmt := top 14
def spArea (C : Addr) : Sp := fun vs H Q _ => ∃ (c : V) (q : PLine), vs = [c] ∧ LineAt C H c q ∧ LineOk1 q ∧ RetV (.int (Geo.areaOf (Geo.sidesOf q.1 q.2))) H Q
theorem svArea {C : Addr} {H : Hp} {c : V} {q : PLine} (hc : LineAt C H c q) (ok : LineOk1 q) : SpV (spArea C) [c] H (.int (Geo.areaOf (Geo.sidesOf q.1 q.2))) := fun H1 e Q k E => ⟨c, q, rfl, hc.ex e, ok, k⟩
section
variable {P : Program} {w : World} {K : PySem.W.Frag} {mg : Str → Option Value} {base : Heap} {C : Addr}
abbrev nArea : List Str := ["ring", "start", "end"]
theorem scArea : FnScope nArea ["ring"] (defScope sArea) := ⟨rfl, rfl, rfl, by decide +kernel, rfl, by decide +kernel, by decide +kernel⟩
abbrev teArea (K : PySem.W.Frag) : TE := tOp (rI0 fun i j => .int (i - j)) (tOp (rI CMul fun i j => .int (i * j)) (tOp (rIxT K) (tVar 1) (tC (.int 0))) (tOp (rIxT K) (tVar 2) (tC (.int 1)))) (tOp (rI CMul fun i j => .int (i * j)) (tOp (rIxT K) (tVar 1) (tC (.int 1))) (tOp (rIxT K) (tVar 2) (tC (.int 0))))
theorem ok_area {f : Addr} {fd : FuncData} (F : Fun K "doubled_area" "doubled_area" sArea f fd) (B : Bi mg) (DS : dSides C P w K mg base) : FnOk P w K mg base CX0 2 f fd ["ring"] (spArea C) := by
  refine F.ok scArea (fun vs H Q E h => ?_) (fun cdv A outer s H vs Q E hr h => ?_)
  · obtain ⟨c, q, rfl, _⟩ := h
    rfl
  · obtain ⟨c, q, rfl, hc, ok, k⟩ := h
    refine ⟨_, pss_one (ps_ret (pe_callB (cr_sum rfl) (by rfl) B.sum (by decide +kernel) (pa_cons
      (pe_lc (own := [("start", 1), ("end", 2)]) (g := gTup K 2 (gCons (gName 1) (gCons (gName 2) gNil))) (tt := tYes) (te := teArea K) rfl scArea.nd (pi_list (pe_d DS hr (by decide) rfl (pa_cons (pv 0) pa_nil))) (blkOk_by (N := nArea) (sc := defScope sArea) (by decide +kernel))
        (fun _ _ _ _ _ => pg_tup rfl (pgs_cons (pg_name (i := 1) scArea.nd rfl (Or.inl rfl)) (pgs_cons (pg_name (i := 2) scArea.nd rfl (Or.inl rfl)) pgs_nil))) (fun _ _ _ _ _ => pts_nil)
        (fun _ _ _ _ _ => pe_op op_sub (pe_op op_mul (pe_ix ix_tup (pv 1) pe_int (fun _ _ => rfl)) (pe_ix ix_tup (pv 2) pe_int (fun _ _ => rfl))) (pe_op op_mul (pe_ix ix_tup (pv 1) pe_int (fun _ _ => rfl)) (pe_ix ix_tup (pv 2) pe_int (fun _ _ => rfl))))) pa_nil))), ?_⟩
    have el : EvL (tLc (iList K (tCall (spSides C) [] E0 (tCons (tVar 0) tNil))) (gTup K 2 (gCons (gName 1) (gCons (gName 2) gNil))) tYes (teArea K) [1, 2]) [some c, none, none] H ((Geo.sidesOf q.1 q.2).map fun s => V.int (s.1.1 * s.2.2 - s.1.2 * s.2.1)) := by
      refine el_lcNS (fun s => V.int (s.1.1 * s.2.2 - s.1.2 * s.2.1)) (en_call (ea_cons (ev_var rfl) ea_nil) (snSides1 hc ok)) (by have := sides_len1 ok; omega) (fun x y => rfl) (fun u w s H1 e1 hu hw hm => ?_)
      have sk := sides_sk1 ok s hm
      refine ev_op (ev_op (ev_x (ev_var rfl) hu) (ev_y (ev_var rfl) hw) (rv_I (.inl (mul_ok (by unfold SkS Sk at sk; omega))))) (ev_op (ev_y (ev_var rfl) hu) (ev_x (ev_var rfl) hw) (rv_I (.inl (mul_ok (by unfold SkS Sk at sk; omega))))) rv_I0
    refine s_ret (v := .int (Geo.areaOf (Geo.sidesOf q.1 q.2))) (ev_sum (ns := (Geo.sidesOf q.1 q.2).map fun s => s.1.1 * s.2.2 - s.1.2 * s.2.1) ?_) k
    rw [List.map_map]
    exact el
end
abbrev dArea (C : Addr) (P : Program) (w : World) (K : PySem.W.Frag) (mg : Str → Option Value) (base : Heap) : Prop := Dn P w K mg base 2 "doubled_area" ["ring"] (spArea C)
/-! ### turns_round -/
abbrev sRound : Stmt := top 15
def spRound (C : Addr) : Sp := fun vs H Q _ => ∃ (v c : V) (p : Pt) (q : PLine), vs = [v, c] ∧ Pl H v p ∧ LineAt C H c q ∧ LineOk1 q ∧ Sm p ∧ RetV (.int (Geo.roundOf (Geo.sidesOf q.1 q.2) p)) H Q
theorem svRound {C : Addr} {H : Hp} {v c : V} {p : Pt} {q : PLine} (h : Pl H v p) (hc : LineAt C H c q) (ok : LineOk1 q) (sp : Sm p) : SpV (spRound C) [v, c] H (.int (Geo.roundOf (Geo.sidesOf q.1 q.2) p)) := fun H1 e Q k E => ⟨v, c, p, q, rfl, h.ex e, hc.ex e, ok, sp, k⟩
section
variable {P : Program} {w : World} {K : PySem.W.Frag} {mg : Str → Option Value} {base : Heap} {C : Addr}
abbrev nRound : List Str := ["place", "ring", "turns", "start", "end"]
theorem scRound : FnScope nRound ["place", "ring"] (defScope sRound) := ⟨rfl, rfl, rfl, by decide +kernel, rfl, by decide +kernel, by decide +kernel⟩
theorem ok_round {f : Addr} {fd : FuncData} (F : Fun K "turns_round" "turns_round" sRound f fd) (DS : dSides C P w K mg base) (DB : dBend P w K mg base) : FnOk P w K mg base CX0 2 f fd ["place", "ring"] (spRound C) := by
  refine F.ok scRound (fun vs H Q E h => ?_) (fun cdv A outer s H vs Q E hr h => ?_)
  · obtain ⟨v, c, p, q, rfl, _⟩ := h
    rfl
  · obtain ⟨v, c, p, q, rfl, hv, hc, ok, sp, k⟩ := h
    refine ⟨_, pss_cons (ps_set (i := 2) scRound.nd rfl (Or.inl rfl) pe_int)
      (pss_cons (ps_for PassesOwn.never rfl (pi_list (pe_d DS hr (by decide) rfl (pa_cons (pv 1) pa_nil))) (pg_tup rfl (pgs_cons (pg_name (i := 3) scRound.nd rfl (Or.inl rfl)) (pgs_cons (pg_name (i := 4) scRound.nd rfl (Or.inl rfl)) pgs_nil)))
        (pss_cons (ps_if (PW.pt (pw_and (pt_chain op_le op_lt (pe_ix ix_tup (pv 3) pe_int (fun _ _ => rfl)) (pe_ix ix_tup (pv 0) pe_int (fun _ _ => rfl)) (pe_ix ix_tup (pv 4) pe_int (fun _ _ => rfl)))
            (pw_and1 (pt_cmpR op_gt (pe_d DB hr (by decide) rfl (pa_cons (pv 3) (pa_cons (pv 4) (pa_cons (pv 0) pa_nil)))) pe_int (nomark _))))) (pss_one (ps_aug (i := 2) scRound.nd rfl (Or.inl rfl) pe_int ip_add)) pss_nil)
        (pss_one (ps_if (PW.pt (pw_and (pt_chain op_le op_lt (pe_ix ix_tup (pv 4) pe_int (fun _ _ => rfl)) (pe_ix ix_tup (pv 0) pe_int (fun _ _ => rfl)) (pe_ix ix_tup (pv 3) pe_int (fun _ _ => rfl)))
            (pw_and1 (pt_cmpR op_lt (pe_d DB hr (by decide) rfl (pa_cons (pv 3) (pa_cons (pv 4) (pa_cons (pv 0) pa_nil)))) pe_int (nomark _))))) (pss_one (ps_aug (i := 2) scRound.nd rfl (Or.inl rfl) pe_int ip_sub)) pss_nil))))
      (pss_one (ps_ret (pv 2)))), ?_⟩
    refine q_asg ev_c fun H0 e0 => ?_
    let upto : Nat → Int := fun n => (((Geo.sidesOf q.1 q.2).take n).map (Geo.crossOf p)).sum
    refine q_forNS (K := K) (en_call (ea_cons (ev_var rfl) ea_nil) (snSides1 (hc.ex e0) ok))
      (fun H1 n σ' H' => Ex H1 H' ∧ ∃ x y, σ' = [some v, some c, some (.int (upto n)), x, y])
      (fun H1 e1 => ⟨Ex.refl H1, none, none, rfl⟩) (fun H1 i σ' H' z => z.1) (fun H1 e1 n g u w' σ' H' hg hu hw ⟨eH, x, y, es⟩ => ?_) (fun H1 e1 σ' H' ⟨eH, x, y, es⟩ => ?_)
    · subst es
      have eA := (e0.trans e1).trans eH
      have sk := sides_sk1 ok g (List.mem_of_getElem? hg)
      have um : upto (n + 1) = upto n + Geo.crossOf p g := by
        show (((Geo.sidesOf q.1 q.2).take (n + 1)).map (Geo.crossOf p)).sum = _
        rw [take_more hg, List.map_append, List.sum_append]
        show _ + ([Geo.crossOf p g]).sum = _
        rw [List.sum_cons, List.sum_nil, Int.add_zero]
      have key : ∀ (t : Int) (H2 : Hp), Ex H' H2 → (upto (n + 1) = if (g.2.2 ≤ p.2 ∧ p.2 < g.1.2 ∧ Mm01.turn g.1 g.2 p < 0) then t - 1 else t) →
          tIfS (tAnd (tTest (tChain (rI0 fun i j => .bl (decide (i ≤ j))) (rI0 fun i j => .bl (decide (i < j))) (tOp (rIxT K) (tVar 4) (tC (.int 1))) (tOp (rIxT K) (tVar 0) (tC (.int 1))) (tOp (rIxT K) (tVar 3) (tC (.int 1)))))
            (tTest (tOp (rI0 fun i j => .bl (decide (i < j))) (tCall spBend [] E0 (tCons (tVar 3) (tCons (tVar 4) (tCons (tVar 0) tNil)))) (tC (.int 0))))) (tAug 2 (tC (.int 1)) (ipI fun i j => i - j)) tNext
            { nx := (fun σ' H' => Ex H1 H' ∧ ∃ x y, σ' = [some v, some c, some (.int (upto (n + 1))), x, y]), rt := Q, ct := (fun σ' H' => Ex H1 H' ∧ ∃ x y, σ' = [some v, some c, some (.int (upto (n + 1))), x, y]), bk := (fun σ' H' => tRet (tVar 2) { nx := fun _ H' => Q .non H', rt := Q } σ' H') }
            [some v, some c, some (.int t), some u, some w'] H2 := fun t H2 e2 ht => by
        refine s_when (et_and (et_test (ev_chain (ev_y (ev_var rfl) (hw.ex e2)) (ev_y (ev_var rfl) (hv.ex (eA.trans e2))) (ev_y (ev_var rfl) (hu.ex e2)))) fun _ => et_test (ev_op (ev_call (ea_cons (ev_var rfl) (ea_cons (ev_var rfl) (ea_cons (ev_var rfl) ea_nil))) (svBend (hu.ex e2) (hw.ex e2) (hv.ex (eA.trans e2)) sk.1.sm sk.2.sm sp)) ev_c rv_I0)) (fun hb H3 e3 => ?_) (fun hb H3 e3 => ?_)
        · have hb' : g.2.2 ≤ p.2 ∧ p.2 < g.1.2 ∧ Mm01.turn g.1 g.2 p < 0 := by
            simp only [Bool.and_eq_true, decide_eq_true_iff] at hb
            exact ⟨hb.1.1, hb.1.2, hb.2⟩
          refine s_aug (f := fun i j => i - j) (a := t) (b := 1) rfl ev_c fun H4 e4 => ⟨(eH.trans e2).trans (e3.trans e4), some u, some w', ?_⟩
          rw [ht, if_pos hb']
          rfl
        · have hb' : ¬ (g.2.2 ≤ p.2 ∧ p.2 < g.1.2 ∧ Mm01.turn g.1 g.2 p < 0) := by
            rintro ⟨h1, h2, h3⟩
            rw [decide_eq_true h1, decide_eq_true h2, decide_eq_true h3] at hb
            cases hb
          refine ⟨(eH.trans e2).trans e3, some u, some w', ?_⟩
          rw [ht, if_neg hb']
      refine q_when (et_and (et_test (ev_chain (ev_y (ev_var rfl) hu) (ev_y (ev_var rfl) (hv.ex eA)) (ev_y (ev_var rfl) hw))) fun _ => et_test (ev_op (ev_call (ea_cons (ev_var rfl) (ea_cons (ev_var rfl) (ea_cons (ev_var rfl) ea_nil))) (svBend hu hw (hv.ex eA) sk.1.sm sk.2.sm sp)) ev_c rv_I0)) (fun hb H3 e3 => ?_) (fun hb H3 e3 => ?_)
      · have hb' : g.1.2 ≤ p.2 ∧ p.2 < g.2.2 ∧ 0 < Mm01.turn g.1 g.2 p := by
          simp only [Bool.and_eq_true, decide_eq_true_iff] at hb
          exact ⟨hb.1.1, hb.1.2, hb.2⟩
        refine s_aug (f := fun i j => i + j) (a := upto n) (b := 1) rfl ev_c fun H4 e4 => ?_
        refine key (upto n + 1) H4 (e3.trans e4) ?_
        rw [um]
        unfold Geo.crossOf
        rw [if_pos hb', if_neg (by omega)]
      · have hb' : ¬ (g.1.2 ≤ p.2 ∧ p.2 < g.2.2 ∧ 0 < Mm01.turn g.1 g.2 p) := by
          rintro ⟨h1, h2, h3⟩
          rw [decide_eq_true h1, decide_eq_true h2, decide_eq_true h3] at hb
          cases hb
        refine key (upto n) H3 e3 ?_
        rw [um]
        unfold Geo.crossOf
        rw [if_neg hb']
        split <;> omega
    · subst es
      refine s_ret (ev_var rfl) fun H5 e5 => ?_
      have : upto (Geo.sidesOf q.1 q.2).length = Geo.roundOf (Geo.sidesOf q.1 q.2) p := by
        show (((Geo.sidesOf q.1 q.2).take _).map (Geo.crossOf p)).sum = _
        rw [List.take_length]
        rfl
      rw [this]
      exact k H5 (((e0.trans e1).trans eH).trans e5)
end
abbrev dRound (C : Addr) (P : Program) (w : World) (K : PySem.W.Frag) (mg : Str → Option Value) (base : Heap) : Prop := Dn P w K mg base 2 "turns_round" ["place", "ring"] (spRound C)
end PL
namespace PL
open PySem PySem.Spec PyProof.Rows L2 Evl
open Geo (Seg pz PLine Cand Tri Off)
/-! ### worths_of -/
abbrev sWorths : Stmt := top 47
/-- the worths of a line's points, in a dict -/
def WorthAt (H : Hp) (v : V) (f : Nat → Option Nat) : Prop := ∃ d kvs, v = .ref d ∧ H d = some (.dK kvs) ∧ ∀ i : Nat, valV kvs (Sum.inl (i : Int)) = (f i).map fun (w : Nat) => V.int (w : Int)
theorem WorthAt.ex {H H' : Hp} (e : Ex H H') {v : V} {f : Nat → Option Nat} (h : WorthAt H v f) : WorthAt H' v f := by
  obtain ⟨d, kvs, h1, h2, h3⟩ := h
  exact ⟨d, kvs, h1, e _ _ h2, h3⟩
def wfs (L : List PLine) : List (Nat → Option Nat) := (List.range L.length).map fun k => Geo.worthOf (Mm01.order (specL L)) k
structure DictsAt (H0 H : Hp) (ag : Addr) (ds : List Addr) (n : Nat) (o : List Off) : Prop where
  hag : H ag = some (.lst (ds.map V.ref))
  nd : ds.Nodup
  new : H0 ag = none ∧ ∀ d ∈ ds, H0 d = none
  len : ds.length = n
  each : ∀ (k : Nat) (d : Addr), ds[k]? = some d → ∃ kvs, H d = some (.dK kvs) ∧ kvs.length ≤ o.length ∧ ∀ i : Nat, valV kvs (Sum.inl (i : Int)) = (Geo.worthOf o k i).map fun (w : Nat) => V.int (w : Int)
theorem DictsAt.ex {H0 H H' : Hp} {ag : Addr} {ds : List Addr} {n : Nat} {o : List Off} (e : Ex H H') (h : DictsAt H0 H ag ds n o) : DictsAt H0 H' ag ds n o :=
  ⟨e _ _ h.hag, h.nd, h.new, h.len, fun k d hd => by
    obtain ⟨kvs, h1, h2, h3⟩ := h.each k d hd
    exact ⟨kvs, e _ _ h1, h2, h3⟩⟩
theorem worthOf_take {o : List Off} (nd : (o.map fun x => (x.1, x.2.1)).Nodup) {n : Nat} {x : Off} (hx : o[n]? = some x) (k i : Nat) : Geo.worthOf (o.take (n + 1)) k i = if k = x.1 ∧ i = x.2.1 then some x.2.2 else Geo.worthOf (o.take n) k i := by
  rw [take_more hx]
  unfold Geo.worthOf
  rw [List.find?_append]
  by_cases h : k = x.1 ∧ i = x.2.1
  · obtain ⟨rfl, rfl⟩ := h
    have hn : (o.take n).find? (fun y => y.1 == x.1 && y.2.1 == x.2.1) = none := by
      rw [List.find?_eq_none]
      intro y hy e
      simp only [Bool.and_eq_true, beq_iff_eq] at e
      obtain ⟨m, hm⟩ := List.getElem?_of_mem hy
      have hml := (List.getElem?_eq_some_iff.mp hm).1
      rw [List.length_take] at hml
      have mn : m < n := by omega
      rw [List.getElem?_take, if_pos mn] at hm
      obtain ⟨nl, en⟩ := List.getElem?_eq_some_iff.mp hx
      obtain ⟨ml, em⟩ := List.getElem?_eq_some_iff.mp hm
      have p := List.pairwise_iff_getElem.mp nd m n (by rw [List.length_map]; exact ml) (by rw [List.length_map]; exact nl) mn
      apply p
      rw [List.getElem_map, List.getElem_map, em, en]
      exact Prod.ext e.1 e.2
    rw [hn, if_pos ⟨rfl, rfl⟩]
    simp
  · rw [if_neg h]
    have : ([x] : List Off).find? (fun y => y.1 == k && y.2.1 == i) = none := by
      rw [List.find?_eq_none]
      intro y hy e
      rw [List.mem_singleton] at hy
      subst hy
      simp only [Bool.and_eq_true, beq_iff_eq] at e
      exact h ⟨e.1.symm, e.2.symm⟩
    rw [this, Option.or_none]
theorem exT_updD {H : Hp} {D : Addr} {kvs : List (Key × V)} {o : HO} (h : H D = some (.dK kvs)) : ExT H (upd H D o) := fun a xs e => by
  rw [upd_ne (ne_of e h (by intro z; cases z))]
  exact e
/-- one worth written -/
theorem DictsAt.put {H0 H : Hp} {ag : Addr} {ds : List Addr} {n : Nat} {o : List Off} {m : Nat} {x : Off} {d : Addr} {kvs : List (Key × V)} (nd : (o.map fun x => (x.1, x.2.1)).Nodup) (h : DictsAt H0 H ag ds n (o.take m)) (hx : o[m]? = some x) (hd : ds[x.1]? = some d) (hk : H d = some (.dK kvs)) :
    DictsAt H0 (upd H d (.dK (putK kvs (Sum.inl (x.2.1 : Int)) (.int (x.2.2 : Int))))) ag ds n (o.take (m + 1)) := by
  have ml := (List.getElem?_eq_some_iff.mp hx).1
  refine ⟨by rw [upd_ne (ne_of h.hag hk (by intro z; cases z))]; exact h.hag, h.nd, h.new, h.len, fun k d' hd' => ?_⟩
  by_cases e : k = x.1
  · subst e
    rw [hd] at hd'
    cases hd'
    obtain ⟨kvs', h1, h2, h3⟩ := h.each x.1 d hd
    rw [hk] at h1
    cases h1
    refine ⟨_, upd_same, ?_, fun i => ?_⟩
    · have := length_putK kvs (Sum.inl (x.2.1 : Int)) (.int (x.2.2 : Int))
      rw [List.length_take] at h2 ⊢
      omega
    · rw [valV_put, worthOf_take nd hx, h3]
      by_cases ei : i = x.2.1
      · rw [if_pos (by rw [ei]), if_pos ⟨rfl, ei⟩]
        rfl
      · rw [if_neg (fun z => ei (by have := Sum.inl.inj z; omega)), if_neg (fun z => ei z.2)]
  · have ne : d' ≠ d := fun z => by
      subst z
      exact e (nd_ix h.nd hd' hd)
    obtain ⟨kvs', h1, h2, h3⟩ := h.each k d' hd'
    refine ⟨kvs', by rw [upd_ne ne]; exact h1, ?_, fun i => ?_⟩
    · rw [List.length_take] at h2 ⊢
      omega
    · rw [worthOf_take nd hx, if_neg (fun z => e z.1)]
      exact h3 i
section
variable {α : Type} {K : PySem.W.Frag} {σ : L2.St} {H : Hp} {td ty tv tl : TE} {D : Ends} {R : Hp → V → α → Prop} {xs : List α}
theorem s_dput {d : Addr} {kvs : List (Key × V)} {i : Int} {v : V} (hv : Ev tv σ H v) (hd : Ev td σ H (.ref d)) (hi : Ev ty σ H (.int i)) (h : H d = some (.dK kvs)) (hl : kvs.length < 100000)
    (k : ∀ H1, Ex H H1 → D.nx σ (upd H1 d (.dK (putK kvs (Sum.inl i) v)))) : sDPut td ty tv D σ H := hv H (Ex.refl H) _ fun H1 e1 => hd H1 e1 _ fun H2 e2 => hi H2 (e1.trans e2) _ fun H3 e3 =>
  ⟨d, _, rfl, DPut.k (k := Sum.inl i) (((e1.trans e2).trans e3) _ _ h) (sz_lt hl), k H3 ((e1.trans e2).trans e3)⟩
theorem ev_dnotin {d : Addr} {kvs : List (Key × V)} {i : Int} (hi : Ev ty σ H (.int i)) (hd : Ev td σ H (.ref d)) (h : H d = some (.dK kvs)) : Ev (tDNotIn ty td) σ H (.bl (!(valV kvs (Sum.inl i)).isSome)) := fun H1 e1 Q q =>
  hi H1 e1 _ fun H2 e2 => hd H2 (e1.trans e2) _ fun H3 e3 => ⟨d, _, rfl, DGet.k (k := Sum.inl i) (((e1.trans e2).trans e3) _ _ h), q H3 (e2.trans e3)⟩
theorem ev_din {d : Addr} {kvs : List (Key × V)} {i : Int} (hi : Ev ty σ H (.int i)) (hd : Ev td σ H (.ref d)) (h : H d = some (.dK kvs)) : Ev (tDIn ty td) σ H (.bl (valV kvs (Sum.inl i)).isSome) := fun H1 e1 Q q =>
  hi H1 e1 _ fun H2 e2 => hd H2 (e1.trans e2) _ fun H3 e3 => ⟨d, _, rfl, DGet.k (k := Sum.inl i) (((e1.trans e2).trans e3) _ _ h), q H3 (e2.trans e3)⟩
theorem ev_dget {d : Addr} {kvs : List (Key × V)} {i : Int} {v : V} (hd : Ev td σ H (.ref d)) (hi : Ev ty σ H (.int i)) (h : H d = some (.dK kvs)) (hv : valV kvs (Sum.inl i) = some v) : Ev (tDGet td ty) σ H v := fun H1 e1 Q q =>
  hd H1 e1 _ fun H2 e2 => hi H2 (e1.trans e2) _ fun H3 e3 => ⟨d, v, rfl, by rw [← hv]; exact DGet.k (k := Sum.inl i) (((e1.trans e2).trans e3) _ _ h), q H3 (e2.trans e3)⟩
/-- for x in a new list, what stood may change -/
theorem q_forNM {j : Nat} {tz tu : TS} (h : EvN tl σ H R xs) (k : ∀ p vs H1, H p = none → Ex H H1 → H1 p = some (.lst vs) → Each (R H1) vs xs → ∃ Pv : Nat → L2.St → Hp → Prop, Pv 0 σ H1 ∧ (∀ i σ' H', Pv i σ' H' → H' p = some (.lst vs)) ∧
      (∀ i v σ' H', vs[i]? = some v → Pv i σ' H' → tu { D with nx := Pv (i + 1), ct := Pv (i + 1), bk := tz D } (σ'.set j (some v)) H') ∧ (∀ σ' H', Pv vs.length σ' H' → tz D σ' H')) : tSeq (tFor (iList K tl) (gName j) tu) tz D σ H :=
  h H (Ex.refl H) _ fun p vs H1 hp e h1 h2 => by
    obtain ⟨Pv, a1, a2, a3, a4⟩ := k p vs H1 hp e h1 h2
    exact ⟨p, rfl, ⟨vs, sq_of h1⟩, for_list Pv a1 (fun i σ' H' _ q => sq_of (a2 _ _ _ q)) (fun i v σ' H' hi q => a3 i v σ' H' hi q) a4⟩
end
def spWorths (C : Addr) : Sp := fun vs H Q _ => ∃ (v : V) (L : List PLine), vs = [v] ∧ Ls (LineAt C) H v L ∧ LinesOk L ∧ RetN WorthAt (wfs L) H Q
theorem snWorths {C : Addr} {H : Hp} {v : V} {L : List PLine} (h : Ls (LineAt C) H v L) (ok : LinesOk L) : SpN (spWorths C) [v] H WorthAt (wfs L) := fun H1 e Q k E => ⟨v, L, rfl, exL e h, ok, k⟩
section
variable {P : Program} {w : World} {K : PySem.W.Frag} {mg : Str → Option Value} {base : Heap} {C : Addr}
abbrev nWorths : List Str := ["lines", "found", "going", "line"]
theorem scWorths : FnScope nWorths ["lines"] (defScope sWorths) := ⟨rfl, rfl, rfl, by decide +kernel, rfl, by decide +kernel, by decide +kernel⟩
theorem ok_worths {f : Addr} {fd : FuncData} (F : Fun K "worths_of" "worths_of" sWorths f fd) (DG : dGo C P w K mg base) : FnOk P w K mg base CX0 6 f fd ["lines"] (spWorths C) := by
  refine F.ok scWorths (fun vs H Q E h => ?_) (fun cdv A outer s H vs Q E hr h => ?_)
  · obtain ⟨v, L, rfl, _⟩ := h
    rfl
  · obtain ⟨_, L, rfl, hL, ok, kk⟩ := h
    obtain ⟨al, ls, rfl, hal, hel⟩ := id hL
    have lenl := hel.length
    have few := ok.few
    refine ⟨_, pss_cons (ps_setLc (i := 1) (own := [("line", 3)]) (g := gName 3) (tt := tYes) (te := tDNewK) rfl scWorths.nd rfl rfl (sw_true rfl rfl rfl (by decide +kernel)) (pi_list (pv 0)) (blkOk_by (N := nWorths) (sc := defScope sWorths) (by decide +kernel))
        (fun _ _ _ _ _ => pg_name (i := 3) scWorths.nd rfl (Or.inl rfl)) (fun _ _ _ _ _ => pts_nil) (fun _ _ _ _ _ => pe_dnewK))
      (pss_cons (ps_for PassesOwn.never rfl (pi_list (pe_d DG hr (by decide) rfl (pa_cons (pv 0) pa_nil))) (pg_name (i := 2) scWorths.nd rfl (Or.inl rfl))
        (pss_one (ps_dput (hu_of hr) (pe_ix ix_list (pv 1) (pe_ix ix_tup (pv 2) pe_int (fun _ _ => rfl)) (fun _ _ => rfl)) (pe_ix ix_tup (pv 2) pe_int (fun _ _ => rfl)) (pe_ix ix_tup (pv 2) pe_int (fun _ _ => rfl)) rfl)))
      (pss_one (ps_ret (pv 1)))), ?_⟩
    refine ⟨_, rfl, al, rfl, ⟨ls, sq_of hal⟩, fun ag hag => lc_list (K := K) (xs := ls) (fun i H' => Ex H H' ∧ ∃ ds : List Addr, H' ag = some (.lst (ds.map V.ref)) ∧ ds.Nodup ∧ ds.length = i ∧ (∀ d ∈ ds, H d = none) ∧ ∀ d ∈ ds, H' d = some (.dK []))
      ⟨Ex.new hag, [], upd_same, List.Pairwise.nil, rfl, (fun b hb => by cases hb), (fun b hb => by cases hb)⟩ (fun i H' _ p => sq_of (p.1 _ _ hal)) ?_ ?_⟩
    · rintro i x H' hi ⟨eH, ds, hb1, hb2, hb4, hb5, hb6⟩
      refine ⟨rfl, yes_go ?_⟩
      intro p hp
      have pa : p ≠ ag := fun z => by rw [z, hb1] at hp; cases hp
      have pH : H p = none := fresh_back eH hp
      have pb : p ∉ ds := fun z => by
        have := hb6 p z
        rw [hp] at this
        cases this
      have bl : ds.length ≤ 4 := by have := (List.getElem?_eq_some_iff.mp hi).1; omega
      have eN : Ex H' (upd H' p (.dK [])) := Ex.new hp
      refine ⟨_, eN _ _ hb1, sz_lt (by rw [List.length_map]; omega), Ex.mut (eH.trans eN) hag, ds ++ [p], by rw [upd_same, List.map_append]; rfl, ?_, ?_, ?_, ?_⟩
      · rw [List.nodup_append]
        refine ⟨hb2, by simp, fun b hb b' hb' e => ?_⟩
        rw [List.mem_singleton] at hb'
        rw [e, hb'] at hb
        exact pb hb
      · rw [List.length_append, hb4]; rfl
      · intro b hb
        rw [List.mem_append, List.mem_singleton] at hb
        rcases hb with z | z
        · exact hb5 b z
        · rw [z]; exact pH
      · intro b hb
        rw [List.mem_append, List.mem_singleton] at hb
        rcases hb with z | z
        · have hne : b ≠ ag := ne_of (hb6 b z) hb1 (by intro z; cases z)
          rw [upd_ne hne]
          exact eN _ _ (hb6 b z)
        · rw [z, upd_ne pa, upd_same]
    rintro H1 ⟨e1, ds, hb1, hb2, hb4, hb5, hb6⟩
    show tSeq _ _ _ _ _
    generalize ho : Mm01.order (specL L) = o at kk
    have ond : (o.map fun x => (x.1, x.2.1)).Nodup := by rw [← ho]; exact Geo.order_nodup (Geo.NumsOk_mk L)
    have olen : o.length ≤ 48 := by rw [← ho]; exact order_len ok
    have ok1 : ∀ x ∈ o, x.1 < L.length := fun x hx => by
      rw [← ho] at hx
      have := (Geo.goes_mem hx).1
      unfold specL at this
      rw [List.length_map] at this
      exact this
    have DA0 : DictsAt H H1 ag ds L.length (o.take 0) := ⟨hb1, hb2, ⟨hag, hb5⟩, by omega, fun k d hd => ⟨[], hb6 d (List.mem_of_getElem? hd), Nat.zero_le _, fun i => rfl⟩⟩
    have en : EvN (tCall (spGo C) [] E0 (tCons (tVar 0) tNil)) [some (.ref al), some (.ref ag), none, none] H1 GoAt o := by
      rw [← ho]
      exact en_call (ea_cons (ev_var rfl) ea_nil) (snGo (exL e1 hL) ok)
    refine q_forNM (K := K) en fun g gs H2 hg e2 h2 hE => ?_
    have glen := hE.length
    refine ⟨fun n σ' H' => (∃ x2 x3, σ' = [some (.ref al), some (.ref ag), x2, x3]) ∧ Ex H H' ∧ H' g = some (.lst gs) ∧ ExT H2 H' ∧ DictsAt H H' ag ds L.length (o.take n),
      ⟨⟨none, none, rfl⟩, e1.trans e2, h2, fun _ _ z => z, DA0.ex e2⟩, fun i σ' H' z => z.2.2.1, ?_, ?_⟩
    · rintro i v σ' H' hi ⟨⟨x2, x3, rfl⟩, eH, hgs, et, DA⟩
      obtain ⟨x, hx1, hx2⟩ := hE.get hi
      obtain ⟨a, rfl, ha⟩ := hx2.exT et
      have xl := ok1 x (List.mem_of_getElem? hx1)
      have hd : ds[x.1]? = some (ds[x.1]'(by rw [DA.len]; exact xl)) := List.getElem?_eq_getElem _
      generalize ds[x.1]'(by rw [DA.len]; exact xl) = d at hd
      obtain ⟨kvs, hk1, hk2, hk3⟩ := DA.each x.1 d hd
      rw [List.length_take] at hk2
      refine s_dput (d := d) (kvs := kvs) (i := (x.2.1 : Int)) (v := .int (x.2.2 : Int)) (ev_op (ev_var rfl) ev_c (rv_ixT (st_of ha) (atI_nat (j := 2) rfl)))
        (ev_op (ev_var rfl) (ev_op (ev_var rfl) ev_c (rv_ixT (st_of ha) (atI_nat (j := 0) rfl))) (rv_ixL (sq_of DA.hag) (atI_nat (by rw [List.getElem?_map, hd]; rfl)))) (ev_op (ev_var rfl) ev_c (rv_ixT (st_of ha) (atI_nat (j := 1) rfl))) hk1 (by omega) fun H3 e3 => ?_
      have hk3' := e3 _ _ hk1
      refine ⟨⟨_, _, rfl⟩, Ex.mut (eH.trans e3) (DA.new.2 d (List.mem_of_getElem? hd)), ?_, fun b ys z => exT_updD hk3' _ _ (e3 _ _ (et _ _ z)), (DA.ex e3).put ond hx1 hd hk3'⟩
      rw [upd_ne (ne_of (e3 _ _ hgs) hk3' (by intro z; cases z))]
      exact e3 _ _ hgs
    · rintro σ' H' ⟨⟨x2, x3, rfl⟩, eH, hgs, et, DA⟩
      rw [glen, List.take_length] at DA
      refine s_ret (ev_var rfl) fun H5 e5 => ?_
      have DA5 := DA.ex e5
      refine kk ag _ H5 hag (eH.trans e5) DA5.hag (Each.of_get (by unfold wfs; rw [List.length_map, List.length_map, List.length_range, DA5.len]) fun i v x hv hx => ?_)
      rw [List.getElem?_map] at hv
      unfold wfs at hx
      rw [List.getElem?_map] at hx
      cases ed : ds[i]? with
      | none => rw [ed] at hv; cases hv
      | some d =>
        rw [ed] at hv
        have hv := Option.some.inj hv
        obtain ⟨kvs, k1, k2, k3⟩ := DA5.each i d ed
        have il : i < L.length := by rw [← DA5.len]; exact (List.getElem?_eq_some_iff.mp ed).1
        rw [List.getElem?_range il] at hx
        have hx := Option.some.inj hx
        refine ⟨d, kvs, hv.symm, k1, fun j => ?_⟩
        rw [k3, ← hx, ho]
end
abbrev dWorths (C : Addr) (P : Program) (w : World) (K : PySem.W.Frag) (mg : Str → Option Value) (base : Heap) : Prop := Dn P w K mg base 6 "worths_of" ["lines"] (spWorths C)
end PL
namespace PL
open PySem PySem.Spec PyProof.Rows L2 Evl
open Geo (Seg pz PLine Cand Tri Off)
/-! ### shown_of -/
abbrev sShown : Stmt := top 48
def shs (L : List PLine) (t : Nat) : List (List Nat) := L.zipIdx.map fun z => Geo.shownPts (Mm01.order (specL L)) t z.2 z.1.2.length
theorem shs_get {L : List PLine} {t k : Nat} {q : PLine} (h : L[k]? = some q) : (shs L t)[k]? = some (Geo.shownPts (Mm01.order (specL L)) t k q.2.length) := by
  unfold shs
  rw [List.getElem?_map, zipIdx_get h]
  rfl
theorem shs_len (L : List PLine) (t : Nat) : (shs L t).length = L.length := by
  unfold shs
  rw [List.length_map, List.length_zipIdx]
/-- a list of numbers, not that at D -/
def NatX (D : Addr) (H : Hp) (v : V) (l : List Nat) : Prop := ∃ b, v = .ref b ∧ b ≠ D ∧ H b = some (.lst (nV l))
def spShown (C : Addr) : Sp := fun vs H Q _ => ∃ (v : V) (t : Nat) (L : List PLine), vs = [v, .int (t : Int)] ∧ Ls (LineAt C) H v L ∧ LinesOk L ∧ RetN NatL (shs L t) H Q
theorem snShown {C : Addr} {H : Hp} {v : V} {t : Nat} {L : List PLine} (h : Ls (LineAt C) H v L) (ok : LinesOk L) : SpN (spShown C) [v, .int (t : Int)] H NatL (shs L t) := fun H1 e Q k E => ⟨v, t, L, rfl, exL e h, ok, k⟩
theorem worth_test {K : PySem.W.Frag} {σ : L2.St} {H : Hp} {d : Addr} {kvs : List (Key × V)} {o : List Off} {t k i : Nat} (h1 : σ[1]? = some (some (.int (t : Int)))) (h4 : σ[4]? = some (some (.ref d))) (h5 : σ[5]? = some (some (.int (i : Int)))) (hd : H d = some (.dK kvs))
    (hv : valV kvs (Sum.inl (i : Int)) = (Geo.worthOf o k i).map fun (w : Nat) => V.int (w : Int)) :
    EvT (tOr (tB (tDNotIn (tVar 5) (tVar 4))) (tTest (tOp (rI0 fun i j => .bl (decide (j ≤ i))) (tDGet (tVar 4) (tVar 5)) (tVar 1)))) σ H (Geo.isShown o t k i) := by
  unfold Geo.isShown
  cases e : Geo.worthOf o k i with
  | none =>
    rw [e] at hv
    refine et_is (et_or (b := true) (et_B (ev_dnotin (ev_var h5) (ev_var h4) hd)) (fun hb => ?_)) ?_
    · rw [hv] at hb
      cases hb
    · rw [hv]
      rfl
  | some w =>
    rw [e] at hv
    refine et_is (et_or (b := decide (t ≤ w)) (et_B (ev_dnotin (ev_var h5) (ev_var h4) hd)) (fun _ => et_is (et_test (ev_op (ev_dget (ev_var h4) (ev_var h5) hd hv) (ev_var h1) rv_I0)) ?_)) ?_
    · rw [Bool.eq_iff_iff, decide_eq_true_iff, decide_eq_true_iff]
      omega
    · rw [hv]
      rfl
section
variable {P : Program} {w : World} {K : PySem.W.Frag} {mg : Str → Option Value} {base : Heap} {C : Addr}
abbrev nShown : List Str := ["lines", "t", "found", "line", "worths", "i"]
theorem scShown : FnScope nShown ["lines", "t"] (defScope sShown) := ⟨rfl, rfl, rfl, by decide +kernel, rfl, by decide +kernel, by decide +kernel⟩
theorem ok_shown {f : Addr} {fd : FuncData} (F : Fun K "shown_of" "shown_of" sShown f fd) (B : Bi mg) (T : TL K mg C) (DW : dWorths C P w K mg base) : FnOk P w K mg base CX0 7 f fd ["lines", "t"] (spShown C) := by
  refine F.ok scShown (fun vs H Q E h => ?_) (fun cdv A outer s H vs Q E hr h => ?_)
  · obtain ⟨v, t, L, rfl, _⟩ := h
    rfl
  · obtain ⟨_, t, L, rfl, hL, ok, kk⟩ := h
    obtain ⟨al, ls, rfl, hal, hel⟩ := id hL
    have lenl := hel.length
    have few := ok.few
    refine ⟨_, pss_cons (ps_set (i := 2) scShown.nd rfl (Or.inl rfl) (pe_lst pa_nil))
      (pss_cons (ps_for PassesOwn.never rfl (pi_zip (by rfl) B.zip (pa_cons (pv 0) (pa_cons (pe_d DW hr (by decide) rfl (pa_cons (pv 0) pa_nil)) pa_nil))) (pg_tup rfl (pgs_cons (pg_name (i := 3) scShown.nd rfl (Or.inl rfl)) (pgs_cons (pg_name (i := 4) scShown.nd rfl (Or.inr rfl)) pgs_nil)))
        (pss_one (ps_expr (pe_bm PySem.F.plainAttrs_list PySem.F.slot_list_append PySem.F.type_list_append mt_append (pv 2) (pa_cons
          (pe_lc (own := [("i", 5)]) (g := gName 5) (tt := tOr (tB (tDNotIn (tVar 5) (tVar 4))) (tTest (tOp (rI0 fun i j => .bl (decide (j ≤ i))) (tDGet (tVar 4) (tVar 5)) (tVar 1)))) (te := tVar 5) rfl scShown.nd
            (pi_range1 rfl B.range (pa_cons (pe_callB call_len_seq (by rfl) B.len PySem.boot_len (pa_cons (pe_fld (pv 3) rfl) pa_nil)) pa_nil)) (blkOk_by (N := nShown) (sc := defScope sShown) (by decide +kernel))
            (fun _ _ _ _ _ => pg_name (i := 5) scShown.nd rfl (Or.inl rfl)) (fun _ _ _ _ _ => pts_one (PW.pt (pw_or (pt_cmp (pc_dnotin (hu_of hr) (pv 5) (pv 4))) (pw_or1 (pt_cmpR op_ge (pe_dget (hu_of hr) (pv 4) (pv 5) (fun _ _ => rfl)) (pv 1) (nomark _)))))) (fun _ _ _ _ _ => pv 5)) pa_nil)))))
      (pss_one (ps_ret (pv 2)))), ?_⟩
    refine q_asgL (el_lst ea_nil (by decide)) fun D H1 hD e1 d1 => ?_
    have en : EvN (tCall (spWorths C) [] E0 (tCons (tVar 0) tNil)) [some (.ref al), some (.int (t : Int)), some (.ref D), none, none, none] H1 WorthAt (wfs L) := en_call (ea_cons (ev_var rfl) ea_nil) (snWorths (exL e1 hL) ok)
    refine ⟨_, rfl, en H1 (Ex.refl H1) _ fun wl ws H2 hwl e2 h2 hE2 => ?_⟩
    have wlen : ws.length = L.length := by rw [hE2.length]; unfold wfs; rw [List.length_map, List.length_range]
    have d2 := e2 _ _ d1
    have e12 := e1.trans e2
    have wlD : wl ≠ D := fun z => by rw [z, d1] at hwl; cases hwl
    refine ⟨al, wl, ls, ws, rfl, sq_of (e12 _ _ hal), sq_of h2, RZ.for_zipL (K := K) (by omega) (fun n σ' H' => (∃ x3 x4 x5, σ' = [some (.ref al), some (.int (t : Int)), some (.ref D), x3, x4, x5]) ∧ Ex H H' ∧ Kp D H2 H' ∧ ∃ acc, H' D = some (.lst acc) ∧ Each (NatX D H') acc ((shs L t).take n))
      ⟨⟨none, none, none, rfl⟩, e12, Kp.refl D H2, [], d2, trivial⟩ (fun i σ' H' p => ⟨sq_of (p.2.1 _ _ hal), sq_of (p.2.2.1 _ _ wlD h2)⟩) ?_ ?_⟩
    · rintro i x y Tt σ' H' hx hy ⟨⟨x3, x4, x5, rfl⟩, eH, kp, acc, hacc, hE⟩ hT
      refine ⟨Tt, _, rfl, st_of upd_same, rfl, _, _, rfl, _, _, rfl, rfl, ?_⟩
      obtain ⟨q, hq1, hq2⟩ := hel.get hx
      obtain ⟨wf, hw1, ⟨d, kvs, rfl, hd, hv⟩⟩ := hE2.get hy
      have il : i < L.length := (List.getElem?_eq_some_iff.mp hq1).1
      have hwf : wf = Geo.worthOf (Mm01.order (specL L)) i := by
        unfold wfs at hw1
        rw [List.getElem?_map, List.getElem?_range il] at hw1
        exact (Option.some.inj hw1).symm
      subst hwf
      have dD : d ≠ D := ne_of hd d2 (by intro z; cases z)
      have eT : Ex H' (upd H' Tt (.tup [x, .ref d])) := Ex.new hT
      have hd3 := eT _ _ (kp _ _ dD hd)
      have eH3 := eH.trans eT
      have kp3 : Kp D H2 (upd H' Tt (.tup [x, .ref d])) := kp.trans (Kp.of eT)
      have d3 := eT _ _ hacc
      have hE3 : Each (NatX D (upd H' Tt (.tup [x, .ref d]))) acc ((shs L t).take i) := hE.mono fun v l ⟨b, h1, h2, h3⟩ => ⟨b, h1, h2, eT _ _ h3⟩
      generalize (upd H' Tt (.tup [x, .ref d])) = H3 at hd3 eH3 kp3 d3 hE3
      obtain ⟨a, dx, l, rfl, ha, ⟨_, pvs, eq, hpl, hep⟩⟩ := id hq2
      cases eq
      have okq := ok.ok q (List.mem_of_getElem? hq1)
      have alen := hE3.length
      rw [List.length_take, shs_len] at alen
      have el : EvL (tLc (iRng1 (tCons (tCB (rLenS K) (tCons (tFld K (tVar 3) "points") tNil)) tNil)) (gName 5) (tOr (tB (tDNotIn (tVar 5) (tVar 4))) (tTest (tOp (rI0 fun i j => .bl (decide (j ≤ i))) (tDGet (tVar 4) (tVar 5)) (tVar 1)))) (tVar 5) [5]) [some (.ref al), some (.int (t : Int)), some (.ref D), some (.ref a), some (.ref d), x5] H3 (nV (Geo.shownPts (Mm01.order (specL L)) t i q.2.length)) := by
        have := el_lcR1 (ta := tCons (tCB (rLenS K) (tCons (tFld K (tVar 3) "points") tNil)) tNil) (t := tOr (tB (tDNotIn (tVar 5) (tVar 4))) (tTest (tOp (rI0 fun i j => .bl (decide (j ≤ i))) (tDGet (tVar 4) (tVar 5)) (tVar 1)))) (te := tVar 5) (j := 5) (vs := [5]) (σ := [some (.ref al), some (.int (t : Int)), some (.ref D), some (.ref a), some (.ref d), x5]) (H := H3) (n := (q.2.length : Int)) (Geo.isShown (Mm01.order (specL L)) t i) (fun j => V.int (j : Int))
          (ea_cons (ev_is (ev_len (K := K) (ev_fld (ev_var rfl) (eH3 _ _ ha) T.cl T.nP (lF_points _ _)) (sq_of (eH3 _ _ hpl))) (by rw [hep.length])) ea_nil) (by have := okq.1; omega) (fun x => rfl)
          (fun j H4 e4 hj => worth_test (K := K) rfl rfl rfl (e4 _ _ hd3) (hv j)) (fun j H4 e4 hj _ => ev_var rfl)
        rw [Int.toNat_natCast] at this
        exact this
      refine s_appL (D := { nx := _, rt := Q, ct := _, bk := _ }) (K := K) (l := D) (xs := acc) d3 (ev_var rfl) el (by omega) fun p H4 hp e4 h4 => ?_
      have pD : p ≠ D := fun z => by rw [z, d3] at hp; cases hp
      refine ⟨⟨_, _, _, rfl⟩, Ex.mut (eH3.trans e4) hD, kp3.trans ((Kp.of e4).trans Kp.upd), _, upd_same, ?_⟩
      rw [take_more (shs_get hq1)]
      exact Each.snoc ⟨p, rfl, pD, by rw [upd_ne pD]; exact h4⟩ (hE3.mono fun v l ⟨b, h1, h2, h3⟩ => ⟨b, h1, h2, by rw [upd_ne h2]; exact e4 _ _ h3⟩)
    · rintro σ' H' ⟨⟨x3, x4, x5, rfl⟩, eH, kp, acc, hacc, hE⟩
      rw [lenl, ← shs_len L t, List.take_length] at hE
      exact s_ret (ev_var rfl) fun H5 e5 => kk D acc H5 hD (eH.trans e5) (e5 _ _ hacc) (hE.mono fun v l ⟨b, h1, _, h3⟩ => ⟨b, h1, e5 _ _ h3⟩)
end
abbrev dShown (C : Addr) (P : Program) (w : World) (K : PySem.W.Frag) (mg : Str → Option Value) (base : Heap) : Prop := Dn P w K mg base 7 "shown_of" ["lines", "t"] (spShown C)
end PL
namespace PL
open PySem PySem.Spec PyProof.Rows L2 Evl
open Geo (Seg pz PLine Cand Tri Off)
section
variable {α : Type} {K : PySem.W.Frag} {σ : L2.St} {H : Hp} {tl te ta tb : TE} {R : Hp → V → α → Prop} {xs : List α}
/-- [e for n in a list of numbers] -/
theorem el_lcP {j : Nat} {vs : List Nat} {lf : List Nat} (g : Nat → V) (h : EvP tl σ H (fun v H2 => NatL H2 v lf)) (hz : lf.length ≤ 40000) (hw : ∀ x, wipe ((wipe σ vs).set j (some x)) vs = wipe σ vs)
    (he : ∀ (n : Nat) H1, Ex H H1 → n ∈ lf → Ev te ((wipe σ vs).set j (some (.int (n : Int)))) H1 (g n)) : EvL (tLc (iList K tl) (gName j) tYes te vs) σ H (lf.map g) := fun H0 e Q q =>
  h H0 e _ fun v H1 e1 ⟨a, ea, hx⟩ => by
    subst ea
    exact ⟨a, rfl, ⟨nV lf, sq_of hx⟩, fun Dl hD =>
      lc_list (xs := nV lf) (Cw H1 (fun _ => true) (fun i => g (lf.getD i 0)) Dl) ⟨hD, Ex.new hD, upd_same⟩ (fun i H' _ p => sq_of (p.2.1 a _ hx))
        (fun i x H' hi p => by
          have il : i < lf.length := by
            have := (List.getElem?_eq_some_iff.mp hi).1
            rw [nV_len] at this
            exact this
          refine ⟨hw x, cw_turn p (by omega) et_yes (fun _ => ?_)⟩
          rw [nV_get il] at hi
          have hi := Option.some.inj hi
          subst hi
          exact he _ H1 (e.trans e1) (Geo.getD_mem il))
        (fun H' p => q Dl H' (fresh_back e1 p.1) (e1.trans p.2.1) (by rw [p.2.2, given_all (nV_len lf)]))⟩
/-- an item of a new list -/
theorem ep_ixN (mono : ∀ (H H' : Hp) (v : V) (x : α), Ex H H' → R H v x → R H' v x) {k : Nat} {x : α} (h : EvN ta σ H R xs) (hb : Ev tb σ H (.int (k : Int))) (hx : xs[k]? = some x) : EvP (tOp (rIxL K) ta tb) σ H (fun v H2 => R H2 v x) := fun H1 e Q q =>
  h H1 e _ fun p vs H2 hp e2 h2 hE => hb H2 (e.trans e2) _ fun H3 e3 => by
    obtain ⟨v, hv1, hv2⟩ := hE.get' hx
    exact ⟨p, vs, (k : Int), v, rfl, rfl, sq_of (e3 _ _ h2), atI_nat hv1, q v H3 (e2.trans e3) (mono _ _ _ _ e3 hv2)⟩
end
theorem each_map {α β : Type} {R : V → β → Prop} {g : α → V} {f : α → β} : ∀ {l : List α}, (∀ n ∈ l, R (g n) (f n)) → Each R (l.map g) (l.map f)
  | [], _ => trivial
  | a :: l, h => ⟨h a (by simp), each_map fun n hn => h n (List.mem_cons_of_mem _ hn)⟩
/-! ### line_shown -/
abbrev sLs : Stmt := top 49
def RetW (C : Addr) (q : PLine) (H : Hp) (Q : VK) : Prop := ∀ v H2, Ex H H2 → LineAt C H2 v q → Q v H2
def shQ (L : List PLine) (t k : Nat) (q : PLine) : PLine := (q.1, Geo.shownPlaces (Mm01.order (specL L)) t k q)
def spLs (C : Addr) : Sp := fun vs H Q _ => ∃ (v : V) (t k : Nat) (L : List PLine) (q : PLine), vs = [v, .int (t : Int), .int (k : Int)] ∧ Ls (LineAt C) H v L ∧ LinesOk L ∧ L[k]? = some q ∧ RetW C (shQ L t k q) H Q
theorem ep_ls {C : Addr} {σ : L2.St} {H : Hp} {ta : TA} {E : XK} {v : V} {t k : Nat} {L : List PLine} {q : PLine} (h : EvA ta σ H [v, .int (t : Int), .int (k : Int)]) (hL : Ls (LineAt C) H v L) (ok : LinesOk L) (hq : L[k]? = some q) : EvP (tCall (spLs C) [] E ta) σ H (fun u H2 => LineAt C H2 u (shQ L t k q)) := fun H1 e Q kk =>
  h H1 e _ fun H2 e2 => ⟨v, t, k, L, q, rfl, exL (e.trans e2) hL, ok, hq, fun u H3 e3 h3 => kk u H3 (e2.trans e3) h3⟩
theorem shQ_ok {L : List PLine} (ok : LinesOk L) (t : Nat) {k : Nat} {q : PLine} (hq : L[k]? = some q) : LineOk1 (shQ L t k q) := by
  have okq := ok.ok q (List.mem_of_getElem? hq)
  have hlt : ∀ i ∈ Geo.shownPts (Mm01.order (specL L)) t k q.2.length, i < q.2.length := fun i hi => by
    unfold Geo.shownPts at hi
    exact List.mem_range.mp (List.mem_filter.mp hi).1
  have hlen : (shQ L t k q).2.length = (Geo.shownPts (Mm01.order (specL L)) t k q.2.length).length := by
    unfold shQ Geo.shownPlaces
    rw [List.length_map]
  refine ⟨⟨?_, ?_⟩, fun p hp => ?_⟩
  · rw [hlen]
    exact List.length_pos_iff.mpr (Geo.shownPts_ne (fun q hq => (ok.ok q hq).1.1) t k hq)
  · rw [hlen]
    unfold Geo.shownPts
    have := List.length_filter_le (Geo.isShown (Mm01.order (specL L)) t k) (List.range q.2.length)
    rw [List.length_range] at this
    have := okq.1.2
    omega
  · unfold shQ Geo.shownPlaces at hp
    rw [List.mem_map] at hp
    obtain ⟨i, hi, rfl⟩ := hp
    exact getD_sk okq (hlt i hi)
section
variable {P : Program} {w : World} {K : PySem.W.Frag} {mg : Str → Option Value} {base : Heap} {C : Addr}
abbrev nLs : List Str := ["lines", "t", "k", "i"]
theorem scLs : FnScope nLs ["lines", "t", "k"] (defScope sLs) := ⟨rfl, rfl, rfl, by decide +kernel, rfl, by decide +kernel, by decide +kernel⟩
theorem ok_ls {f fI : Addr} {fd fdI : FuncData} (F : Fun K "line_shown" "line_shown" sLs f fd) (T : TL K mg C) (DS : dShown C P w K mg base)
    (MK : Mk K C fI) (GI : FnOk P w K mg base CX0 1 fI fdI ["self", "ring", "points"] (spLineInit C)) (bI : Binds K fdI ["self", "ring", "points"] []) : FnOk P w K mg base CX0 8 f fd ["lines", "t", "k"] (spLs C) := by
  refine F.ok scLs (fun vs H Q E h => ?_) (fun cdv A outer s H vs Q E hr h => ?_)
  · obtain ⟨v, t, k, L, q, rfl, _⟩ := h
    rfl
  · obtain ⟨_, t, k, L, q, rfl, hL, ok, hq, kk⟩ := h
    obtain ⟨al, ls, rfl, hal, hel⟩ := id hL
    have hr2 : Room 2 _ := hr.mono (by decide)
    refine ⟨_, pss_one (ps_ret (pe_make MK GI hr2 rfl T.gC bI .nil pass0 (pa_cons (pe_fld (pe_ix ix_list (pv 0) (pv 2) (fun _ _ => rfl)) rfl) (pa_cons
      (pe_lc (own := [("i", 3)]) (g := gName 3) (tt := tYes) (te := tOp (rIxL K) (tFld K (tOp (rIxL K) (tVar 0) (tVar 2)) "points") (tVar 3)) rfl scLs.nd (pi_list (pe_ix ix_list (pe_d DS hr (by decide) rfl (pa_cons (pv 0) (pa_cons (pv 1) pa_nil))) (pv 2) (fun _ _ => rfl))) (blkOk_by (N := nLs) (sc := defScope sLs) (by decide +kernel))
        (fun _ _ _ _ _ => pg_name (i := 3) scLs.nd rfl (Or.inl rfl)) (fun _ _ _ _ _ => pts_nil) (fun _ _ _ _ _ => pe_ix ix_list (pe_fld (pe_ix ix_list (pv 0) (pv 2) (fun _ _ => rfl)) rfl) (pv 3) (fun _ _ => rfl))) pa_nil)))), ?_⟩
    obtain ⟨vk, hk1, hk2⟩ := hel.get' hq
    obtain ⟨a, dx, l, rfl, ha, ⟨_, pvs, eq, hpl, hep⟩⟩ := id hk2
    cases eq
    have okq := ok.ok q (List.mem_of_getElem? hq)
    have hline : ∀ (σ : L2.St) H1, Ex H H1 → σ[0]? = some (some (.ref al)) → σ[2]? = some (some (.int (k : Int))) → Ev (tOp (rIxL K) (tVar 0) (tVar 2)) σ H1 (.ref a) := fun σ H1 e h0 h2 => ev_op (ev_var h0) (ev_var h2) (rv_ixL (sq_of (e _ _ hal)) (atI_nat hk1))
    have ering : Ev (tFld K (tOp (rIxL K) (tVar 0) (tVar 2)) "ring") [some (.ref al), some (.int (t : Int)), some (.int (k : Int)), none] H (.bl q.1) := ev_fld (hline _ H (Ex.refl H) rfl rfl) ha T.cl T.nR (lF_ring _ _)
    have el : EvL (tLc (iList K (tOp (rIxL K) (tCall (spShown C) [] E0 (tCons (tVar 0) (tCons (tVar 1) tNil))) (tVar 2))) (gName 3) tYes (tOp (rIxL K) (tFld K (tOp (rIxL K) (tVar 0) (tVar 2)) "points") (tVar 3)) [3]) [some (.ref al), some (.int (t : Int)), some (.int (k : Int)), none] H
        ((Geo.shownPts (Mm01.order (specL L)) t k q.2.length).map fun n => pvs.getD n .non) := by
      refine el_lcP (fun n => pvs.getD n .non) (ep_ixN (R := NatL) (fun _ _ _ _ => NatL.ex) (en_call (ea_cons (ev_var rfl) (ea_cons (ev_var rfl) ea_nil)) (snShown hL ok)) (ev_var rfl) (shs_get hq)) ?_ (fun x => rfl) (fun n H1 e1 hn => ?_)
      · have := List.length_filter_le (Geo.isShown (Mm01.order (specL L)) t k) (List.range q.2.length)
        rw [List.length_range] at this
        have := okq.1.2
        unfold Geo.shownPts
        omega
      · have nl : n < q.2.length := by
          unfold Geo.shownPts at hn
          exact List.mem_range.mp (List.mem_filter.mp hn).1
        obtain ⟨u, u1, u2⟩ := hep.get' (List.getElem?_eq_getElem nl)
        have : pvs.getD n .non = u := by rw [List.getD_eq_getElem?_getD, u1]; rfl
        rw [this]
        exact ev_op (ev_fld (hline _ H1 e1 rfl rfl) (e1 _ _ ha) T.cl T.nP (lF_points _ _)) (ev_var rfl) (rv_ixL (sq_of (e1 _ _ hpl)) (atI_nat u1))
    refine ering H (Ex.refl H) _ fun H1 e1 => ?_
    refine el H1 e1 _ fun pp H2 hpp e2 h2 => ?_
    intro x dx' hx hdx hne
    have e02 := e1.trans e2
    refine ⟨x, dx', pp, _, rfl, upd_same, fun H4 h4 kp4 => ⟨rfl, ?_⟩⟩
    have e24 : Ex H2 H4 := fun b o hb => kp4 b o (by rw [upd_ne (ne_of_none hb hx), upd_ne (ne_of_none hb hdx)]; exact hb) (ne_of_none hb hx)
    have e04 := e02.trans e24
    refine kk _ H4 e04 ⟨x, dx', pp, rfl, h4, pp, _, rfl, e24 _ _ h2, ?_⟩
    refine each_map fun n hn => ?_
    have nl : n < q.2.length := by
      unfold Geo.shownPts at hn
      exact List.mem_range.mp (List.mem_filter.mp hn).1
    obtain ⟨u, u1, u2⟩ := hep.get' (List.getElem?_eq_getElem nl)
    rw [List.getD_eq_getElem?_getD, u1, List.getD_eq_getElem?_getD, List.getElem?_eq_getElem nl]
    exact u2.ex e04
end
abbrev dLs (C : Addr) (P : Program) (w : World) (K : PySem.W.Frag) (mg : Str → Option Value) (base : Heap) : Prop := Dn P w K mg base 8 "line_shown" ["lines", "t", "k"] (spLs C)
end PL
namespace PL
open PySem PySem.Spec PyProof.Rows L2 Evl
open Geo (Seg pz PLine Cand Tri Off)
/-- more of the program's constants -/
structure Cm (mg : Str → Option Value) : Prop where
  nr : ∃ t, mg "NO_RING" = some (.int (-4) t)
  on : ∃ t, mg "ON_THE_RING" = some (.int (-6) t)
  nf : ∃ t, mg "NEVER_SO_FEW" = some (.int (-7) t)
  c0 : ∃ t, mg "LINE" = some (.int 0 t)
  c1 : ∃ t, mg "DROP" = some (.int 1 t)
  c2 : ∃ t, mg "ORDER" = some (.int 2 t)
  c3 : ∃ t, mg "WORTH" = some (.int 3 t)
  c4 : ∃ t, mg "SHOWN" = some (.int 4 t)
  c5 : ∃ t, mg "COUNTS" = some (.int 5 t)
  c6 : ∃ t, mg "FEW" = some (.int 6 t)
  c7 : ∃ t, mg "AREA" = some (.int 7 t)
section
variable {K : PySem.W.Frag} {σ : L2.St} {H : Hp} {te ta tb tk : TE} {t : TT} {tz : TS} {D : Ends}
theorem q_asgP {i : Nat} {S : V → Hp → Prop} (h : EvP te σ H S) (k : ∀ v H1, Ex H H1 → S v H1 → tz D (σ.set i (some v)) H1) : tSeq (tAsg te (gName i)) tz D σ H := h H (Ex.refl H) _ fun v H1 e s => k v H1 e s
theorem el_if {b : Bool} {xs : List V} (h : EvT t σ H b) (h1 : b = true → EvL ta σ H xs) (h2 : b = false → EvL tb σ H xs) : EvL (tIf t ta tb) σ H xs := fun H1 e Q q => h H1 e _ fun H2 e2 => by
  cases b with
  | true =>
    show ta σ H2 Q
    exact h1 rfl H2 (e.trans e2) Q fun p H3 hp e3 h3 => q p H3 (fresh_back e2 hp) (e2.trans e3) h3
  | false =>
    show tb σ H2 Q
    exact h2 rfl H2 (e.trans e2) Q fun p H3 hp e3 h3 => q p H3 (fresh_back e2 hp) (e2.trans e3) h3
theorem el_cat {b : Addr} {xs zs : List V} (ha : EvL ta σ H xs) (hb : Ev tb σ H (.ref b)) (h : H b = some (.lst zs)) (hs : xs.length + zs.length ≤ 100000) : EvL (tOp rCat ta tb) σ H (xs ++ zs) := fun H1 e Q q =>
  ha H1 e _ fun p H2 hp e2 h2 => hb H2 (e.trans e2) _ fun H3 e3 => ⟨p, b, xs, zs, rfl, rfl, e3 _ _ h2, ((e.trans e2).trans e3) _ _ h, sz_of hs, fun r hr => q r _ (fresh_back (e2.trans e3) hr) ((e2.trans e3).trans (Ex.new hr)) upd_same⟩
theorem ev_lineK {mg : Str → Option Value} {CM CL G : Addr} {m l : Addr} {L : List PLine} {k : Nat} {q : PLine} (T : TM K mg CM) (h : Ev te σ H (.ref m)) (hk : Ev tk σ H (.int (k : Int))) (M : MapAt CM CL G H m l L) (hq : L[k]? = some q) :
    ∃ a dx p, Ev (tOp (rIxL K) (tFld K te "lines") tk) σ H (.ref a) ∧ H a = some (.ins CL dx (lF q.1 p)) ∧ Ls Pl H (.ref p) q.2 := by
  obtain ⟨vs, hl, hE⟩ := M.ls
  obtain ⟨v, hv1, hv2⟩ := hE.get' hq
  obtain ⟨a, dx, p, rfl, ha, _, hp⟩ := hv2
  exact ⟨a, dx, p, ev_op (ev_lines T h M) hk (rv_ixL (sq_of hl) (atI_nat hv1)), ha, hp⟩
theorem ev_ring {mg : Str → Option Value} {CM CL G : Addr} {m l : Addr} {L : List PLine} {k : Nat} {q : PLine} (T : TM K mg CM) (TLn : TL K mg CL) (h : Ev te σ H (.ref m)) (hk : Ev tk σ H (.int (k : Int))) (M : MapAt CM CL G H m l L) (hq : L[k]? = some q) :
    Ev (tFld K (tOp (rIxL K) (tFld K te "lines") tk) "ring") σ H (.bl q.1) := by
  obtain ⟨a, dx, p, h1, h2, h3⟩ := ev_lineK T h hk M hq
  exact ev_fld h1 h2 TLn.cl TLn.nR (lF_ring _ _)
theorem ev_lenPts {mg : Str → Option Value} {CM CL G : Addr} {m l : Addr} {L : List PLine} {k : Nat} {q : PLine} (T : TM K mg CM) (TLn : TL K mg CL) (h : Ev te σ H (.ref m)) (hk : Ev tk σ H (.int (k : Int))) (M : MapAt CM CL G H m l L) (hq : L[k]? = some q) :
    Ev (tCB (rLenS K) (tCons (tFld K (tOp (rIxL K) (tFld K te "lines") tk) "points") tNil)) σ H (.int (q.2.length : Int)) := by
  obtain ⟨a, dx, p, h1, h2, ⟨_, vs, e, h3, h4⟩⟩ := ev_lineK T h hk M hq
  cases e
  exact ev_is (ev_len (K := K) (ev_fld h1 h2 TLn.cl TLn.nP (lF_points _ _)) (sq_of h3)) (by rw [h4.length])
end
/-! ### worth -/
abbrev sMWorth : Stmt := inClass (top 50) 4
def worthAns (L : List PLine) (k i : Nat) : List Int := match L[k]? with
  | none => [-3]
  | some q => if q.2.length ≤ i then [-4] else match Geo.worthOf (Mm01.order (specL L)) k i with
    | none => [0]
    | some w => [1, (w : Int)]
def spMWorth (CM CL : Addr) : Sp := fun vs H Q _ => ∃ (G m l : Addr) (k i : Nat) (L : List PLine), vs = [.ref m, .int (k : Int), .int (i : Int)] ∧ MapAt CM CL G H m l L ∧ LinesOk L ∧ RetM CM CL G m l L (worthAns L k i) H Q
theorem wfs_get {L : List PLine} {k : Nat} (h : k < L.length) : (wfs L)[k]? = some (Geo.worthOf (Mm01.order (specL L)) k) := by
  unfold wfs
  rw [List.getElem?_map, List.getElem?_range h]
  rfl
section
variable {P : Program} {w : World} {K : PySem.W.Frag} {mg : Str → Option Value} {base : Heap} {CM CL : Addr}
theorem scMWorth : FnScope ["self", "k", "i", "worths"] ["self", "k", "i"] (defScope sMWorth) := ⟨rfl, rfl, rfl, by decide +kernel, rfl, by decide +kernel, by decide +kernel⟩
theorem ok_mworth {f : Addr} {fd : FuncData} (F : Fun K "worth" "Map.worth" sMWorth f fd) (B : Bi mg) (N : Cn mg) (T : TM K mg CM) (TLn : TL K mg CL) (DW : dWorths CL P w K mg base) : FnOk P w K mg base CX0 7 f fd ["self", "k", "i"] (spMWorth CM CL) := by
  refine F.ok scMWorth (fun vs H Q E h => ?_) (fun cdv A outer s H vs Q E hr h => ?_)
  · obtain ⟨G, m, l, k, i, L, rfl, _⟩ := h
    rfl
  · obtain ⟨G, m, l, n, i, L, rfl, M, ok, k⟩ := h
    obtain ⟨t1, g1⟩ := N.nl
    obtain ⟨t2, g2⟩ := N.np
    refine ⟨_, pss_cons (ps_if (pt_cmpR op_ge (pv 1) (pe_callB call_len_seq (by rfl) B.len PySem.boot_len (pa_cons (pe_fld (pv 0) rfl) pa_nil)) (nomark _)) (pss_one (ps_ret (pe_lst (pa_cons (pe_glob (v := .int (-3)) rfl g1 ⟨_, rfl⟩) pa_nil)))) pss_nil)
      (pss_cons (ps_if (pt_cmpR op_ge (pv 2) (pe_callB call_len_seq (by rfl) B.len PySem.boot_len (pa_cons (pe_fld (pe_ix ix_list (pe_fld (pv 0) rfl) (pv 1) (fun _ _ => rfl)) rfl) pa_nil)) (nomark _)) (pss_one (ps_ret (pe_lst (pa_cons (pe_glob (v := .int (-4)) rfl g2 ⟨_, rfl⟩) pa_nil)))) pss_nil)
      (pss_cons (ps_set (i := 3) scMWorth.nd rfl (Or.inl rfl) (pe_ix ix_list (pe_d DW hr (by decide) rfl (pa_cons (pe_fld (pv 0) rfl) pa_nil)) (pv 1) (fun _ _ => rfl)))
      (pss_one (ps_ret (pe_ifExp (pt_cmp (pc_din (hu_of hr) (pv 2) (pv 3))) (pe_lst (pa_cons pe_int (pa_cons (pe_dget (hu_of hr) (pv 3) (pv 2) (fun _ _ => rfl)) pa_nil))) (pe_lst (pa_cons pe_int pa_nil))))))), ?_⟩
    unfold worthAns at k
    refine q_when (et_test (ev_op (ev_var rfl) (ev_lenLines T (ev_var rfl) M) rv_I0)) (fun hc H1 e1 => ?_) (fun hc H1 e1 => ?_)
    · have := of_decide_eq_true hc
      rw [List.getElem?_eq_none (by omega)] at k
      exact s_retM (D := { nx := _, rt := Q }) k e1 (M.ex e1) (el_lst (ea_cons ev_c ea_nil) (by show 1 ≤ 100000; decide)) rfl
    have hlt := of_decide_eq_false hc
    have nl : n < L.length := by omega
    have hq : L[n]? = some L[n] := List.getElem?_eq_getElem nl
    generalize L[n] = q at hq
    rw [hq] at k
    simp only at k
    refine q_when (et_test (ev_op (ev_var rfl) (ev_lenPts T TLn (ev_var rfl) (ev_var rfl) (M.ex e1) hq) rv_I0)) (fun hc2 H2 e2 => ?_) (fun hc2 H2 e2 => ?_)
    · have := of_decide_eq_true hc2
      rw [if_pos (by omega)] at k
      exact s_retM (D := { nx := _, rt := Q }) k (e1.trans e2) (M.ex (e1.trans e2)) (el_lst (ea_cons ev_c ea_nil) (by show 1 ≤ 100000; decide)) rfl
    have hlt2 := of_decide_eq_false hc2
    rw [if_neg (by omega)] at k
    have e12 := e1.trans e2
    have M2 := M.ex e12
    refine q_asgP (ep_ixN (R := WorthAt) (fun _ _ _ _ e h => WorthAt.ex e h) (en_call (ea_cons (ev_lines T (ev_var rfl) M2) ea_nil) (snWorths M2.lines ok)) (ev_var rfl) (wfs_get nl)) fun v H3 e3 hv => ?_
    obtain ⟨d, kvs, rfl, hd, hval⟩ := hv
    have hvi := hval i
    refine s_retM (D := { nx := _, rt := Q }) k (e12.trans e3) (M.ex (e12.trans e3)) (el_if (xs := _) (et_B (ev_din (ev_var rfl) (ev_var rfl) hd)) (fun hb => ?_) (fun hb => ?_)) rfl
    · cases ew : Geo.worthOf (Mm01.order (specL L)) n i with
      | none =>
        rw [ew] at hvi
        rw [hvi] at hb
        cases hb
      | some w =>
        rw [ew] at hvi
        exact el_lst (ea_cons ev_c (ea_cons (ev_dget (ev_var rfl) (ev_var rfl) hd hvi) ea_nil)) (by show 2 ≤ 100000; decide)
    · cases ew : Geo.worthOf (Mm01.order (specL L)) n i with
      | none => exact el_lst (ea_cons ev_c ea_nil) (by show 1 ≤ 100000; decide)
      | some w =>
        rw [ew] at hvi
        rw [hvi] at hb
        cases hb
end
/-! ### shown -/
abbrev sMShown : Stmt := inClass (top 50) 5
def shownAns (L : List PLine) (t k : Nat) : List Int := match L[k]? with
  | none => [-3]
  | some q => (((Geo.shownPts (Mm01.order (specL L)) t k q.2.length).length : Int) :: (Geo.shownPts (Mm01.order (specL L)) t k q.2.length).map fun (i : Nat) => (i : Int))
def spMShown (CM CL : Addr) : Sp := fun vs H Q _ => ∃ (G m l : Addr) (t k : Nat) (L : List PLine), vs = [.ref m, .int (t : Int), .int (k : Int)] ∧ MapAt CM CL G H m l L ∧ LinesOk L ∧ RetM CM CL G m l L (shownAns L t k) H Q
theorem shownPts_len (o : List Off) (t k n : Nat) : (Geo.shownPts o t k n).length ≤ n := by
  unfold Geo.shownPts
  have := List.length_filter_le (Geo.isShown o t k) (List.range n)
  rw [List.length_range] at this
  exact this
section
variable {P : Program} {w : World} {K : PySem.W.Frag} {mg : Str → Option Value} {base : Heap} {CM CL : Addr}
theorem scMShown : FnScope ["self", "t", "k", "points"] ["self", "t", "k"] (defScope sMShown) := ⟨rfl, rfl, rfl, by decide +kernel, rfl, by decide +kernel, by decide +kernel⟩
theorem ok_mshown {f : Addr} {fd : FuncData} (F : Fun K "shown" "Map.shown" sMShown f fd) (B : Bi mg) (N : Cn mg) (T : TM K mg CM) (DS : dShown CL P w K mg base) : FnOk P w K mg base CX0 8 f fd ["self", "t", "k"] (spMShown CM CL) := by
  refine F.ok scMShown (fun vs H Q E h => ?_) (fun cdv A outer s H vs Q E hr h => ?_)
  · obtain ⟨G, m, l, t, k, L, rfl, _⟩ := h
    rfl
  · obtain ⟨G, m, l, t, n, L, rfl, M, ok, k⟩ := h
    obtain ⟨t1, g1⟩ := N.nl
    refine ⟨_, pss_cons (ps_if (pt_cmpR op_ge (pv 2) (pe_callB call_len_seq (by rfl) B.len PySem.boot_len (pa_cons (pe_fld (pv 0) rfl) pa_nil)) (nomark _)) (pss_one (ps_ret (pe_lst (pa_cons (pe_glob (v := .int (-3)) rfl g1 ⟨_, rfl⟩) pa_nil)))) pss_nil)
      (pss_cons (ps_set (i := 3) scMShown.nd rfl (Or.inl rfl) (pe_ix ix_list (pe_d DS hr (by decide) rfl (pa_cons (pe_fld (pv 0) rfl) (pa_cons (pv 1) pa_nil))) (pv 2) (fun _ _ => rfl)))
      (pss_one (ps_ret (pe_op op_cat (pe_lst (pa_cons (pe_callB call_len_seq (by rfl) B.len PySem.boot_len (pa_cons (pv 3) pa_nil)) pa_nil)) (pv 3))))), ?_⟩
    unfold shownAns at k
    refine q_when (et_test (ev_op (ev_var rfl) (ev_lenLines T (ev_var rfl) M) rv_I0)) (fun hc H1 e1 => ?_) (fun hc H1 e1 => ?_)
    · have := of_decide_eq_true hc
      rw [List.getElem?_eq_none (by omega)] at k
      exact s_retM (D := { nx := _, rt := Q }) k e1 (M.ex e1) (el_lst (ea_cons ev_c ea_nil) (by show 1 ≤ 100000; decide)) rfl
    have hlt := of_decide_eq_false hc
    have nl : n < L.length := by omega
    have hq : L[n]? = some L[n] := List.getElem?_eq_getElem nl
    generalize L[n] = q at hq
    rw [hq] at k
    simp only at k
    have M1 := M.ex e1
    have okq := ok.ok q (List.mem_of_getElem? hq)
    refine q_asgP (ep_ixN (R := NatL) (fun _ _ _ _ => NatL.ex) (en_call (ea_cons (ev_lines T (ev_var rfl) M1) (ea_cons (ev_var rfl) ea_nil)) (snShown M1.lines ok)) (ev_var rfl) (shs_get hq)) fun v H3 e3 hv => ?_
    obtain ⟨b, rfl, hb⟩ := hv
    have sl := shownPts_len (Mm01.order (specL L)) t n q.2.length
    have := okq.1.2
    refine s_retM (D := { nx := _, rt := Q }) k (e1.trans e3) (M.ex (e1.trans e3)) (el_cat (el_lst (ea_cons (ev_len (K := K) (ev_var rfl) (sq_of hb)) ea_nil) (by show 1 ≤ 100000; decide)) (ev_var rfl) hb (by rw [nV_len]; show 1 + _ ≤ 100000; omega)) ?_
    rw [nV_len, List.map_cons, ← nV_eq]
    rfl
end
/-! ### counts -/
abbrev sMCounts : Stmt := inClass (top 50) 6
def countsAns (L : List PLine) (t : Nat) : List Int := (shs L t).map fun l => (l.length : Int)
def spMCounts (CM CL : Addr) : Sp := fun vs H Q _ => ∃ (G m l : Addr) (t : Nat) (L : List PLine), vs = [.ref m, .int (t : Int)] ∧ MapAt CM CL G H m l L ∧ LinesOk L ∧ RetM CM CL G m l L (countsAns L t) H Q
section
variable {P : Program} {w : World} {K : PySem.W.Frag} {mg : Str → Option Value} {base : Heap} {CM CL : Addr}
abbrev nCounts : List Str := ["self", "t", "points"]
theorem scMCounts : FnScope nCounts ["self", "t"] (defScope sMCounts) := ⟨rfl, rfl, rfl, by decide +kernel, rfl, by decide +kernel, by decide +kernel⟩
theorem ok_mcounts {f : Addr} {fd : FuncData} (F : Fun K "counts" "Map.counts" sMCounts f fd) (B : Bi mg) (T : TM K mg CM) (DS : dShown CL P w K mg base) : FnOk P w K mg base CX0 8 f fd ["self", "t"] (spMCounts CM CL) := by
  refine F.ok scMCounts (fun vs H Q E h => ?_) (fun cdv A outer s H vs Q E hr h => ?_)
  · obtain ⟨G, m, l, t, L, rfl, _⟩ := h
    rfl
  · obtain ⟨G, m, l, t, L, rfl, M, ok, k⟩ := h
    have few := ok.few
    refine ⟨_, pss_one (ps_ret (pe_lc (own := [("points", 2)]) (g := gName 2) (tt := tYes) (te := tCB (rLenS K) (tCons (tVar 2) tNil)) rfl scMCounts.nd (pi_list (pe_d DS hr (by decide) rfl (pa_cons (pe_fld (pv 0) rfl) (pa_cons (pv 1) pa_nil)))) (blkOk_by (N := nCounts) (sc := defScope sMCounts) (by decide +kernel))
      (fun _ _ _ _ _ => pg_name (i := 2) scMCounts.nd rfl (Or.inl rfl)) (fun _ _ _ _ _ => pts_nil) (fun _ _ _ _ _ => pe_callB call_len_seq (by rfl) B.len PySem.boot_len (pa_cons (pv 2) pa_nil)))), ?_⟩
    have el : EvL (tLc (iList K (tCall (spShown CL) [] E0 (tCons (tFld K (tVar 0) "lines") (tCons (tVar 1) tNil)))) (gName 2) tYes (tCB (rLenS K) (tCons (tVar 2) tNil)) [2]) [some (.ref m), some (.int (t : Int)), none] H ((shs L t).map fun l => V.int (l.length : Int)) := by
      refine el_lcN (R := NatL) [] (fun l => V.int (l.length : Int)) (en_call (ea_cons (ev_lines T (ev_var rfl) M) (ea_cons (ev_var rfl) ea_nil)) (snShown M.lines ok)) (by rw [shs_len]; omega) (fun x => rfl) (fun x l H1 e1 hx _ => ?_)
      obtain ⟨b, rfl, hb⟩ := hx
      exact ev_is (ev_len (K := K) (ev_var rfl) (sq_of hb)) (by rw [nV_len])
    refine s_retM (D := { nx := _, rt := Q }) k (Ex.refl H) M el ?_
    unfold countsAns
    rw [List.map_map]
    rfl
end
/-! ### few -/
abbrev sMFew : Stmt := inClass (top 50) 7
abbrev ptsOf (L : List PLine) : Nat := (L.map fun q => q.2.length).sum
def fewAns (L : List PLine) (n : Nat) : List Int := if ptsOf L ≤ n then [0] else match (Mm01.order (specL L))[ptsOf L - n - 1]? with
  | none => [-7]
  | some x => [((x.2.2 + 1 : Nat) : Int)]
def spMFew (CM CL : Addr) : Sp := fun vs H Q _ => ∃ (G m l : Addr) (n : Nat) (L : List PLine), vs = [.ref m, .int (n : Int)] ∧ MapAt CM CL G H m l L ∧ LinesOk L ∧ RetM CM CL G m l L (fewAns L n) H Q
theorem sum_cast (l : List Nat) : (l.map fun (n : Nat) => (n : Int)).sum = ((l.sum : Nat) : Int) := by
  induction l with
  | nil => rfl
  | cons a r ih => rw [List.map_cons, List.sum_cons, List.sum_cons, ih]; omega
section
variable {P : Program} {w : World} {K : PySem.W.Frag} {mg : Str → Option Value} {base : Heap} {CM CL : Addr}
abbrev nFew : List Str := ["self", "n", "too_many", "goings", "line"]
theorem scMFew : FnScope nFew ["self", "n"] (defScope sMFew) := ⟨rfl, rfl, rfl, by decide +kernel, rfl, by decide +kernel, by decide +kernel⟩
theorem ok_mfew {f : Addr} {fd : FuncData} (F : Fun K "few" "Map.few" sMFew f fd) (B : Bi mg) (N : Cm mg) (T : TM K mg CM) (TLn : TL K mg CL) (DG : dGo CL P w K mg base) : FnOk P w K mg base CX0 6 f fd ["self", "n"] (spMFew CM CL) := by
  refine F.ok scMFew (fun vs H Q E h => ?_) (fun cdv A outer s H vs Q E hr h => ?_)
  · obtain ⟨G, m, l, n, L, rfl, _⟩ := h
    rfl
  · obtain ⟨G, m, l, n, L, rfl, M, ok, k⟩ := h
    obtain ⟨t1, g1⟩ := N.nf
    have few := ok.few
    refine ⟨_, pss_cons (ps_set (i := 2) scMFew.nd rfl (Or.inl rfl) (pe_op op_sub (pe_callB (cr_sum rfl) (by rfl) B.sum (by decide +kernel) (pa_cons
        (pe_lc (own := [("line", 4)]) (g := gName 4) (tt := tYes) (te := tCB (rLenS K) (tCons (tFld K (tVar 4) "points") tNil)) rfl scMFew.nd (pi_list (pe_fld (pv 0) rfl)) (blkOk_by (N := nFew) (sc := defScope sMFew) (by decide +kernel))
          (fun _ _ _ _ _ => pg_name (i := 4) scMFew.nd rfl (Or.inl rfl)) (fun _ _ _ _ _ => pts_nil) (fun _ _ _ _ _ => pe_callB call_len_seq (by rfl) B.len PySem.boot_len (pa_cons (pe_fld (pv 4) rfl) pa_nil))) pa_nil)) (pv 1)))
      (pss_cons (ps_if (pt_cmpR op_le (pv 2) pe_int (nomark _)) (pss_one (ps_ret (pe_lst (pa_cons pe_int pa_nil)))) pss_nil)
      (pss_cons (ps_set (i := 3) scMFew.nd rfl (Or.inl rfl) (pe_d DG hr (by decide) rfl (pa_cons (pe_fld (pv 0) rfl) pa_nil)))
      (pss_cons (ps_if (pt_cmpR op_gt (pv 2) (pe_callB call_len_seq (by rfl) B.len PySem.boot_len (pa_cons (pv 3) pa_nil)) (nomark _)) (pss_one (ps_ret (pe_lst (pa_cons (pe_glob (v := .int (-7)) rfl g1 ⟨_, rfl⟩) pa_nil)))) pss_nil)
      (pss_one (ps_ret (pe_lst (pa_cons (pe_op op_add (pe_ix ix_tup (pe_ix ix_list (pv 3) (pe_op op_sub (pv 2) pe_int) (fun _ _ => rfl)) pe_int (fun _ _ => rfl)) pe_int) pa_nil))))))), ?_⟩
    obtain ⟨ls, hl, hE⟩ := M.ls
    have lenl := hE.length
    have el : EvL (tLc (iList K (tFld K (tVar 0) "lines")) (gName 4) tYes (tCB (rLenS K) (tCons (tFld K (tVar 4) "points") tNil)) [4]) [some (.ref m), some (.int (n : Int)), none, none, none] H (((L.map fun q => q.2.length).map fun (n : Nat) => (n : Int)).map V.int) := by
      have := el_lcL (K := K) (tl := tFld K (tVar 0) "lines") (te := tCB (rLenS K) (tCons (tFld K (tVar 4) "points") tNil)) (t := tYes) (j := 4) (vs := [4]) (σ := [some (.ref m), some (.int (n : Int)), none, none, none]) (H := H) (xs := ls) (fun _ => true) (fun i => V.int ((L.getD i (false, [])).2.length : Int)) (ev_lines T (ev_var rfl) M) (sq_of hl) (by omega) (fun x => rfl) (fun i y Hx ex hi => et_yes) (fun i y Hx ex hi _ => by
        obtain ⟨q, hq1, hq2⟩ := hE.get hi
        have : L.getD i (false, []) = q := by rw [List.getD_eq_getElem?_getD, hq1]; rfl
        rw [this]
        obtain ⟨a, dx, p, rfl, ha, _, ⟨_, us, eq, hp, hep⟩⟩ := hq2
        cases eq
        exact ev_is (ev_len (K := K) (ev_fld (ev_var rfl) (ex _ _ ha) TLn.cl TLn.nP (lF_points _ _)) (sq_of (ex _ _ hp))) (by rw [hep.length]))
      rw [given_all (g := fun q : PLine => V.int (q.2.length : Int)) lenl] at this
      rw [List.map_map, List.map_map]
      exact this
    refine q_asg (v := .int ((ptsOf L : Int) - (n : Int))) (ev_op (ev_is (ev_sum (K := K) el) (by rw [sum_cast])) (ev_var rfl) rv_I0) fun H1 e1 => ?_
    unfold fewAns at k
    refine q_when (et_test (ev_op (ev_var rfl) ev_c rv_I0)) (fun hc H2 e2 => ?_) (fun hc H2 e2 => ?_)
    · have := of_decide_eq_true hc
      rw [if_pos (by omega)] at k
      exact s_retM (D := { nx := _, rt := Q }) k (e1.trans e2) (M.ex (e1.trans e2)) (el_lst (ea_cons ev_c ea_nil) (by show 1 ≤ 100000; decide)) rfl
    have hlt := of_decide_eq_false hc
    rw [if_neg (by omega)] at k
    have e12 := e1.trans e2
    have M2 := M.ex e12
    generalize ho : Mm01.order (specL L) = o at k
    have en : EvN (tCall (spGo CL) [] E0 (tCons (tFld K (tVar 0) "lines") tNil)) [some (.ref m), some (.int (n : Int)), some (.int ((ptsOf L : Int) - (n : Int))), none, none] H2 GoAt o := by
      rw [← ho]
      exact en_call (ea_cons (ev_lines T (ev_var rfl) M2) ea_nil) (snGo M2.lines ok)
    refine q_asgN en fun g gs H3 hg e3 h3 hE3 => ?_
    have glen := hE3.length
    have e13 := e12.trans e3
    refine q_when (et_test (ev_op (ev_var rfl) (ev_len (K := K) (ev_var rfl) (sq_of h3)) rv_I0)) (fun hc2 H4 e4 => ?_) (fun hc2 H4 e4 => ?_)
    · have := of_decide_eq_true hc2
      rw [List.getElem?_eq_none (by omega)] at k
      exact s_retM (D := { nx := _, rt := Q }) k (e13.trans e4) (M.ex (e13.trans e4)) (el_lst (ea_cons ev_c ea_nil) (by show 1 ≤ 100000; decide)) rfl
    have hlt2 := of_decide_eq_false hc2
    have il : ptsOf L - n - 1 < o.length := by omega
    have hx : o[ptsOf L - n - 1]? = some o[ptsOf L - n - 1] := List.getElem?_eq_getElem il
    generalize o[ptsOf L - n - 1] = x at hx
    rw [hx] at k
    simp only at k
    obtain ⟨v, hv1, ⟨a, rfl, ha⟩⟩ := hE3.get' hx
    have ix : ((ptsOf L : Int) - (n : Int)) - 1 = ((ptsOf L - n - 1 : Nat) : Int) := by omega
    refine s_retM (D := { nx := _, rt := Q }) k (e13.trans e4) (M.ex (e13.trans e4)) (el_lst (ea_cons (ev_op (ev_op (ev_op (ev_var rfl) (ev_is (ev_op (ev_var rfl) ev_c rv_I0) (by rw [ix])) (rv_ixL (sq_of (e4 _ _ h3)) (atI_nat hv1))) ev_c (rv_ixT (st_of (e4 _ _ ha)) (atI_nat (j := 2) rfl))) ev_c rv_I0) ea_nil) (by show 1 ≤ 100000; decide)) rfl
end
/-! ### area -/
abbrev sMArea : Stmt := inClass (top 50) 8
def areaAns (L : List PLine) (t k : Nat) : List Int := match L[k]? with
  | none => [-3]
  | some q => if q.1 = false then [-4] else [0, Geo.areaOf (Geo.sidesOf (shQ L t k q).1 (shQ L t k q).2)]
def spMArea (CM CL : Addr) : Sp := fun vs H Q _ => ∃ (G m l : Addr) (t k : Nat) (L : List PLine), vs = [.ref m, .int (t : Int), .int (k : Int)] ∧ MapAt CM CL G H m l L ∧ LinesOk L ∧ RetM CM CL G m l L (areaAns L t k) H Q
theorem ev_areaP {C : Addr} {σ : L2.St} {H : Hp} {te : TE} {q : PLine} (h : EvP te σ H (fun u H2 => LineAt C H2 u q)) (ok : LineOk1 q) : Ev (tCall (spArea C) [] E0 (tCons te tNil)) σ H (.int (Geo.areaOf (Geo.sidesOf q.1 q.2))) := fun H1 e Q k =>
  h H1 e _ fun u H2 e2 hu => (svArea hu ok) H2 (Ex.refl H2) Q (fun H3 e3 => k H3 (e2.trans e3)) E0
section
variable {P : Program} {w : World} {K : PySem.W.Frag} {mg : Str → Option Value} {base : Heap} {CM CL : Addr}
theorem scMArea : FnScope ["self", "t", "k"] ["self", "t", "k"] (defScope sMArea) := ⟨rfl, rfl, rfl, by decide +kernel, rfl, by decide +kernel, by decide +kernel⟩
theorem ok_marea {f : Addr} {fd : FuncData} (F : Fun K "area" "Map.area" sMArea f fd) (B : Bi mg) (N : Cn mg) (N2 : Cm mg) (T : TM K mg CM) (TLn : TL K mg CL) (DL : dLs CL P w K mg base) (DA : dArea CL P w K mg base) : FnOk P w K mg base CX0 9 f fd ["self", "t", "k"] (spMArea CM CL) := by
  refine F.ok scMArea (fun vs H Q E h => ?_) (fun cdv A outer s H vs Q E hr h => ?_)
  · obtain ⟨G, m, l, t, k, L, rfl, _⟩ := h
    rfl
  · obtain ⟨G, m, l, t, n, L, rfl, M, ok, k⟩ := h
    obtain ⟨t1, g1⟩ := N.nl
    obtain ⟨t2, g2⟩ := N2.nr
    refine ⟨_, pss_cons (ps_if (pt_cmpR op_ge (pv 2) (pe_callB call_len_seq (by rfl) B.len PySem.boot_len (pa_cons (pe_fld (pv 0) rfl) pa_nil)) (nomark _)) (pss_one (ps_ret (pe_lst (pa_cons (pe_glob (v := .int (-3)) rfl g1 ⟨_, rfl⟩) pa_nil)))) pss_nil)
      (pss_cons (ps_if (pt_not (pt_val (pe_fld (pe_ix ix_list (pe_fld (pv 0) rfl) (pv 2) (fun _ _ => rfl)) rfl))) (pss_one (ps_ret (pe_lst (pa_cons (pe_glob (v := .int (-4)) rfl g2 ⟨_, rfl⟩) pa_nil)))) pss_nil)
      (pss_one (ps_ret (pe_lst (pa_cons pe_int (pa_cons (pe_d DA hr (by decide) rfl (pa_cons (pe_d DL hr (by decide) rfl (pa_cons (pe_fld (pv 0) rfl) (pa_cons (pv 1) (pa_cons (pv 2) pa_nil)))) pa_nil)) pa_nil)))))), ?_⟩
    unfold areaAns at k
    refine q_when (et_test (ev_op (ev_var rfl) (ev_lenLines T (ev_var rfl) M) rv_I0)) (fun hc H1 e1 => ?_) (fun hc H1 e1 => ?_)
    · have := of_decide_eq_true hc
      rw [List.getElem?_eq_none (by omega)] at k
      exact s_retM (D := { nx := _, rt := Q }) k e1 (M.ex e1) (el_lst (ea_cons ev_c ea_nil) (by show 1 ≤ 100000; decide)) rfl
    have hlt := of_decide_eq_false hc
    have nl : n < L.length := by omega
    have hq : L[n]? = some L[n] := List.getElem?_eq_getElem nl
    generalize L[n] = q at hq
    rw [hq] at k
    simp only at k
    refine q_when (et_not (et_B (ev_ring T TLn (ev_var rfl) (ev_var rfl) (M.ex e1) hq))) (fun hc2 H2 e2 => ?_) (fun hc2 H2 e2 => ?_)
    · have hf : q.1 = false := by simpa using hc2
      rw [if_pos hf] at k
      exact s_retM (D := { nx := _, rt := Q }) k (e1.trans e2) (M.ex (e1.trans e2)) (el_lst (ea_cons ev_c ea_nil) (by show 1 ≤ 100000; decide)) rfl
    have hf : q.1 = true := by simpa using hc2
    rw [if_neg (by rw [hf]; decide)] at k
    have e12 := e1.trans e2
    have M2 := M.ex e12
    exact s_retM (D := { nx := _, rt := Q }) k e12 M2 (el_lst (ea_cons ev_c (ea_cons (ev_areaP (ep_ls (ea_cons (ev_lines T (ev_var rfl) M2) (ea_cons (ev_var rfl) (ea_cons (ev_var rfl) ea_nil))) M2.lines ok hq) (shQ_ok ok t hq)) ea_nil)) (by show 2 ≤ 100000; decide)) rfl
end
/-! ### turns -/
abbrev sMTurns : Stmt := inClass (top 50) 9
def roundAns (L : List PLine) (t k : Nat) (p : Pt) : List Int := match L[k]? with
  | none => [-3]
  | some q => if q.1 = false then [-4] else if onAny p (shQ L t k q) = true then [-6] else [0, Geo.roundOf (Geo.sidesOf (shQ L t k q).1 (shQ L t k q).2) p]
def spMTurns (CM CL : Addr) : Sp := fun vs H Q _ => ∃ (G m l : Addr) (t k : Nat) (v : V) (p : Pt) (L : List PLine), vs = [.ref m, .int (t : Int), .int (k : Int), v] ∧ MapAt CM CL G H m l L ∧ LinesOk L ∧ Pl H v p ∧ Sm p ∧ RetM CM CL G m l L (roundAns L t k p) H Q
section
variable {P : Program} {w : World} {K : PySem.W.Frag} {mg : Str → Option Value} {base : Heap} {CM CL : Addr}
theorem scMTurns : FnScope ["self", "t", "k", "place", "ring"] ["self", "t", "k", "place"] (defScope sMTurns) := ⟨rfl, rfl, rfl, by decide +kernel, rfl, by decide +kernel, by decide +kernel⟩
theorem ok_mturns {f : Addr} {fd : FuncData} (F : Fun K "turns" "Map.turns" sMTurns f fd) (B : Bi mg) (N : Cn mg) (N2 : Cm mg) (T : TM K mg CM) (TLn : TL K mg CL) (DL : dLs CL P w K mg base) (DO : dIsOn CL P w K mg base) (DR : dRound CL P w K mg base) : FnOk P w K mg base CX0 9 f fd ["self", "t", "k", "place"] (spMTurns CM CL) := by
  refine F.ok scMTurns (fun vs H Q E h => ?_) (fun cdv A outer s H vs Q E hr h => ?_)
  · obtain ⟨G, m, l, t, k, v, p, L, rfl, _⟩ := h
    rfl
  · obtain ⟨G, m, l, t, n, v, p, L, rfl, M, ok, hv, sp, k⟩ := h
    obtain ⟨t1, g1⟩ := N.nl
    obtain ⟨t2, g2⟩ := N2.nr
    obtain ⟨t3, g3⟩ := N2.on
    refine ⟨_, pss_cons (ps_if (pt_cmpR op_ge (pv 2) (pe_callB call_len_seq (by rfl) B.len PySem.boot_len (pa_cons (pe_fld (pv 0) rfl) pa_nil)) (nomark _)) (pss_one (ps_ret (pe_lst (pa_cons (pe_glob (v := .int (-3)) rfl g1 ⟨_, rfl⟩) pa_nil)))) pss_nil)
      (pss_cons (ps_if (pt_not (pt_val (pe_fld (pe_ix ix_list (pe_fld (pv 0) rfl) (pv 2) (fun _ _ => rfl)) rfl))) (pss_one (ps_ret (pe_lst (pa_cons (pe_glob (v := .int (-4)) rfl g2 ⟨_, rfl⟩) pa_nil)))) pss_nil)
      (pss_cons (ps_set (i := 4) scMTurns.nd rfl (Or.inl rfl) (pe_d DL hr (by decide) rfl (pa_cons (pe_fld (pv 0) rfl) (pa_cons (pv 1) (pa_cons (pv 2) pa_nil)))))
      (pss_cons (ps_if (pt_val (pe_d DO hr (by decide) rfl (pa_cons (pv 3) (pa_cons (pv 4) pa_nil)))) (pss_one (ps_ret (pe_lst (pa_cons (pe_glob (v := .int (-6)) rfl g3 ⟨_, rfl⟩) pa_nil)))) pss_nil)
      (pss_one (ps_ret (pe_lst (pa_cons pe_int (pa_cons (pe_d DR hr (by decide) rfl (pa_cons (pv 3) (pa_cons (pv 4) pa_nil))) pa_nil)))))))), ?_⟩
    unfold roundAns at k
    refine q_when (et_test (ev_op (ev_var rfl) (ev_lenLines T (ev_var rfl) M) rv_I0)) (fun hc H1 e1 => ?_) (fun hc H1 e1 => ?_)
    · have := of_decide_eq_true hc
      rw [List.getElem?_eq_none (by omega)] at k
      exact s_retM (D := { nx := _, rt := Q }) k e1 (M.ex e1) (el_lst (ea_cons ev_c ea_nil) (by show 1 ≤ 100000; decide)) rfl
    have hlt := of_decide_eq_false hc
    have nl : n < L.length := by omega
    have hq : L[n]? = some L[n] := List.getElem?_eq_getElem nl
    generalize L[n] = q at hq
    rw [hq] at k
    simp only at k
    refine q_when (et_not (et_B (ev_ring T TLn (ev_var rfl) (ev_var rfl) (M.ex e1) hq))) (fun hc2 H2 e2 => ?_) (fun hc2 H2 e2 => ?_)
    · have hf : q.1 = false := by simpa using hc2
      rw [if_pos hf] at k
      exact s_retM (D := { nx := _, rt := Q }) k (e1.trans e2) (M.ex (e1.trans e2)) (el_lst (ea_cons ev_c ea_nil) (by show 1 ≤ 100000; decide)) rfl
    have hf : q.1 = true := by simpa using hc2
    rw [if_neg (by rw [hf]; decide)] at k
    have e12 := e1.trans e2
    have M2 := M.ex e12
    have okS := shQ_ok ok t hq
    refine q_asgP (ep_ls (ea_cons (ev_lines T (ev_var rfl) M2) (ea_cons (ev_var rfl) (ea_cons (ev_var rfl) ea_nil))) M2.lines ok hq) fun u H3 e3 hu => ?_
    have e13 := e12.trans e3
    refine q_when (et_B (ev_call (ea_cons (ev_var rfl) (ea_cons (ev_var rfl) ea_nil)) (svIsOn (hv.ex e13) hu okS sp))) (fun hc3 H4 e4 => ?_) (fun hc3 H4 e4 => ?_)
    · rw [if_pos hc3] at k
      exact s_retM (D := { nx := _, rt := Q }) k (e13.trans e4) (M.ex (e13.trans e4)) (el_lst (ea_cons ev_c ea_nil) (by show 1 ≤ 100000; decide)) rfl
    · rw [if_neg (by rw [hc3]; decide)] at k
      exact s_retM (D := { nx := _, rt := Q }) k (e13.trans e4) (M.ex (e13.trans e4)) (el_lst (ea_cons ev_c (ea_cons (ev_call (ea_cons (ev_var rfl) (ea_cons (ev_var rfl) ea_nil)) (svRound (hv.ex (e13.trans e4)) (hu.ex e4) okS sp)) ea_nil)) (by show 2 ≤ 100000; decide)) rfl
end
end PL
namespace PL
open PySem PySem.Spec PyProof.Rows L2 Evl
open Geo (Seg pz PLine Cand Tri Off)
/-! ### one call, over the program's lines -/
def stepL (L : List PLine) : Mm01.Call → List PLine × List Int
  | .line r row => lineAns L r row
  | .drop k => dropAns L k
  | .order => (L, Geo.ordInts (Mm01.order (specL L)))
  | .worth k i => (L, worthAns L k i)
  | .shown t k => (L, shownAns L t k)
  | .counts t => (L, countsAns L t)
  | .few n => (L, fewAns L n)
  | .area t k => (L, areaAns L t k)
  | .round t k x y => (L, roundAns L t k ((x : Int), (y : Int)))
theorem step_stepL {L : List PLine} (ok : LinesOk L) (x : Mm01.Call) : Mm01.step (specL L) x = (specL (stepL L x).1, (stepL L x).2) := by
  have h2 : ∀ q ∈ L, 2 ≤ q.2.length := fun q hq => (ok.ok q hq).1.1
  cases x with
  | line r row =>
    have := Geo.step_line_eq L h2 r row
    show Mm01.step (Geo.specOf L) _ = _
    rw [this]
    show _ = (specL (lineAns L r row).1, (lineAns L r row).2)
    unfold lineAns
    split
    · rfl
    · split
      · rfl
      · split
        · rfl
        · split
          · rfl
          · rfl
  | drop k =>
    have := Geo.step_drop_eq L k
    show Mm01.step (Geo.specOf L) _ = _
    rw [this]
    show _ = (specL (dropAns L k).1, (dropAns L k).2)
    unfold dropAns
    split
    · rfl
    · rfl
  | order => exact Geo.step_order_eq L
  | worth k i => exact Geo.step_worth_eq L k i
  | shown t k => exact Geo.step_shown_eq L t k
  | counts t =>
    have := Geo.step_counts_eq L t
    show Mm01.step (Geo.specOf L) _ = _
    rw [this]
    show _ = (specL L, countsAns L t)
    unfold countsAns shs
    rw [List.map_map]
    rfl
  | few n => exact Geo.step_few_eq L n
  | area t k =>
    have := Geo.step_area_eq L h2 t k
    show Mm01.step (Geo.specOf L) _ = _
    rw [this]
    show _ = (specL L, areaAns L t k)
    unfold areaAns
    cases hq : L[k]? with
    | none => rfl
    | some q =>
      simp only
      by_cases hr : q.1 = false
      · rw [if_pos hr, if_pos hr]
        rfl
      · rw [if_neg hr, if_neg hr]
        have hr : q.1 = true := by simpa using hr
        unfold shQ
        rw [hr]
        rfl
  | round t k x y =>
    have := Geo.step_round_eq L h2 t k x y
    show Mm01.step (Geo.specOf L) _ = _
    rw [this]
    show _ = (specL L, roundAns L t k ((x : Int), (y : Int)))
    unfold roundAns
    cases hq : L[k]? with
    | none => rfl
    | some q =>
      simp only
      by_cases hr : q.1 = false
      · rw [if_pos hr, if_pos hr]
        rfl
      · rw [if_neg hr, if_neg hr]
        have hr : q.1 = true := by simpa using hr
        unfold onAny shQ
        rw [hr]
        rfl
theorem sound_nd {r : Bool} {p : List Pt} (h : Geo.sound r p = true) : p.Nodup := by
  unfold Geo.sound at h
  rw [Bool.and_eq_true] at h
  exact of_decide_eq_true h.1
theorem stepL_ok {L : List PLine} (ok : LinesOk L) (x : Mm01.Call) : LinesOk (stepL L x).1 := by
  cases x with
  | line r row =>
    show LinesOk (lineAns L r row).1
    unfold lineAns
    split
    · exact ok
    · rename_i hg
      split
      · exact ok
      · rename_i hs
        split
        · exact ok
        · split
          · exact ok
          · rename_i h4
            have hg : Geo.granted r row = true := by simpa using hg
            have hs : Geo.sound (Geo.newLine r row).1 (Geo.newLine r row).2 = true := by simpa using hs
            refine ⟨fun q hq => ?_, fun q hq => ?_, ?_⟩
            · rcases List.mem_append.mp hq with z | z
              · exact ok.ok q z
              · rw [List.mem_singleton] at z
                rw [z]
                exact newLine_ok hg
            · rcases List.mem_append.mp hq with z | z
              · exact ok.nd q z
              · rw [List.mem_singleton] at z
                rw [z]
                exact sound_nd hs
            · show (L ++ [Geo.newLine r row]).length ≤ 4
              rw [List.length_append, List.length_singleton]
              omega
  | drop k =>
    show LinesOk (dropAns L k).1
    unfold dropAns
    split
    · exact ok
    · have sb := List.eraseIdx_sublist L k
      exact ⟨fun q hq => ok.ok q (sb.mem hq), fun q hq => ok.nd q (sb.mem hq), Nat.le_trans sb.length_le ok.few⟩
  | order => exact ok
  | worth k i => exact ok
  | shown t k => exact ok
  | counts t => exact ok
  | few n => exact ok
  | area t k => exact ok
  | round t k x y => exact ok
theorem stepL_len {L : List PLine} (ok : LinesOk L) (x : Mm01.Call) : (stepL L x).2.length ≤ 149 := by
  have few := ok.few
  cases x with
  | line r row =>
    show (lineAns L r row).2.length ≤ 149
    unfold lineAns
    split
    · exact (by decide : 1 ≤ 149)
    · split
      · exact (by decide : 1 ≤ 149)
      · split
        · exact (by decide : 1 ≤ 149)
        · split
          · exact (by decide : 1 ≤ 149)
          · show 1 ≤ 149
            decide
  | drop k =>
    show (dropAns L k).2.length ≤ 149
    unfold dropAns
    split
    · exact (by decide : 1 ≤ 149)
    · show 1 ≤ 149
      decide
  | order =>
    show (Geo.ordInts (Mm01.order (specL L))).length ≤ 149
    unfold Geo.ordInts
    have h1 := order_len ok
    have h2 := flatMap_len (fun x : Off => [(x.1 : Int), (x.2.1 : Int), (x.2.2 : Int)]) 3 (Mm01.order (specL L)) (fun _ _ => Nat.le_refl _)
    rw [List.length_cons]
    omega
  | worth k i =>
    show (worthAns L k i).length ≤ 149
    unfold worthAns
    split
    · decide
    · split
      · decide
      · split
        · decide
        · show 2 ≤ 149
          decide
  | shown t k =>
    show (shownAns L t k).length ≤ 149
    unfold shownAns
    split
    · decide
    · rename_i q hq
      have h1 := shownPts_len (Mm01.order (specL L)) t k q.2.length
      have h2 := (ok.ok q (List.mem_of_getElem? hq)).1.2
      rw [List.length_cons, List.length_map]
      omega
  | counts t =>
    show (countsAns L t).length ≤ 149
    unfold countsAns
    rw [List.length_map, shs_len]
    omega
  | few n =>
    show (fewAns L n).length ≤ 149
    unfold fewAns
    split
    · decide
    · split
      · decide
      · show 1 ≤ 149
        decide
  | area t k =>
    show (areaAns L t k).length ≤ 149
    unfold areaAns
    split
    · decide
    · split
      · decide
      · show 2 ≤ 149
        decide
  | round t k x y =>
    show (roundAns L t k _).length ≤ 149
    unfold roundAns
    split
    · decide
    · split
      · decide
      · split
        · decide
        · show 2 ≤ 149
          decide
/-! ### one call, as its own numbers -/
inductive CallP : List Int → Mm01.Call → Prop
  | line (r : Nat) (row : List Nat) (h : row.length ≤ 1300) : CallP ((0 : Int) :: (r : Int) :: (row.length : Int) :: row.map fun (n : Nat) => (n : Int)) (.line r row)
  | drop (k : Nat) : CallP [1, (k : Int)] (.drop k)
  | order : CallP [2] .order
  | worth (k i : Nat) : CallP [3, (k : Int), (i : Int)] (.worth k i)
  | shown (t k : Nat) : CallP [4, (t : Int), (k : Int)] (.shown t k)
  | counts (t : Nat) : CallP [5, (t : Int)] (.counts t)
  | few (n : Nat) : CallP [6, (n : Int)] (.few n)
  | area (t k : Nat) : CallP [7, (t : Int), (k : Int)] (.area t k)
  | round (t k x y : Nat) (hx : x ≤ 4294967295) (hy : y ≤ 4294967295) : CallP [8, (t : Int), (k : Int), (x : Int), (y : Int)] (.round t k x y)
theorem in32_eq {z : Int} (h : Geo.In32 z) : ((z.toNat : Nat) : Int) = z := by
  unfold Geo.In32 at h
  omega
theorem map_toNat {row : List Int} (h : ∀ z ∈ row, Geo.In32 z) : (row.map Int.toNat).map (fun (n : Nat) => (n : Int)) = row := by
  induction row with
  | nil => rfl
  | cons a r ih =>
    rw [List.map_cons, List.map_cons, ih fun z hz => h z (List.mem_cons_of_mem _ hz), in32_eq (h a (by simp))]
theorem callP_of {l : List Int} {c : List (List Int)} {t : List Int} (h : Geo.CallIs l c t) (hin : ∀ z ∈ l, Geo.In32 z) (hl : l.length ≤ 1300) : ∃ pre x, l = pre ++ t ∧ CallP pre x ∧ 0 < pre.length ∧ ∀ s, Geo.play s c = Mm01.step s x := by
  cases h with
  | line x row t =>
    have hr : ∀ z ∈ row, Geo.In32 z := fun z hz => hin z (by simp [hz])
    have hx := hin x (by simp)
    refine ⟨0 :: x :: (row.length : Int) :: row, .line x.toNat (row.map Int.toNat), rfl, ?_, Nat.succ_pos _, fun s => Geo.play_line (fun z hz => ?_)⟩
    · have := CallP.line x.toNat (row.map Int.toNat) (by rw [List.length_map]; simp only [List.length_cons, List.length_append] at hl; omega)
      rw [map_toNat hr, in32_eq hx, List.length_map] at this
      exact this
    · rcases List.mem_cons.mp hz with e | e
      · rw [e]; exact hx
      · exact hr z e
  | drop k t =>
    have hk := hin k (by simp)
    refine ⟨[1, k], .drop k.toNat, rfl, ?_, Nat.succ_pos _, fun s => Geo.play_drop (fun z hz => ?_)⟩
    · have := CallP.drop k.toNat
      rw [in32_eq hk] at this
      exact this
    · rw [List.mem_singleton] at hz
      rw [hz]; exact hk
  | order t => exact ⟨[2], .order, rfl, .order, Nat.succ_pos _, fun s => Geo.play_order⟩
  | worth k i t =>
    have hk := hin k (by simp)
    have hi := hin i (by simp)
    refine ⟨[3, k, i], .worth k.toNat i.toNat, rfl, ?_, Nat.succ_pos _, fun s => Geo.play_worth (fun z hz => ?_)⟩
    · have := CallP.worth k.toNat i.toNat
      rw [in32_eq hk, in32_eq hi] at this
      exact this
    · exact hin z (by simp only [List.mem_cons, List.not_mem_nil, or_false] at hz ⊢; rcases hz with e | e <;> simp [e])
  | shown s k t =>
    have hs := hin s (by simp)
    have hk := hin k (by simp)
    refine ⟨[4, s, k], .shown s.toNat k.toNat, rfl, ?_, Nat.succ_pos _, fun s => Geo.play_shown (fun z hz => ?_)⟩
    · have := CallP.shown s.toNat k.toNat
      rw [in32_eq hs, in32_eq hk] at this
      exact this
    · exact hin z (by simp only [List.mem_cons, List.not_mem_nil, or_false] at hz ⊢; rcases hz with e | e <;> simp [e])
  | counts s t =>
    have hs := hin s (by simp)
    refine ⟨[5, s], .counts s.toNat, rfl, ?_, Nat.succ_pos _, fun s => Geo.play_counts (fun z hz => ?_)⟩
    · have := CallP.counts s.toNat
      rw [in32_eq hs] at this
      exact this
    · rw [List.mem_singleton] at hz
      rw [hz]; exact hs
  | few n t =>
    have hs := hin n (by simp)
    refine ⟨[6, n], .few n.toNat, rfl, ?_, Nat.succ_pos _, fun s => Geo.play_few (fun z hz => ?_)⟩
    · have := CallP.few n.toNat
      rw [in32_eq hs] at this
      exact this
    · rw [List.mem_singleton] at hz
      rw [hz]; exact hs
  | area s k t =>
    have hs := hin s (by simp)
    have hk := hin k (by simp)
    refine ⟨[7, s, k], .area s.toNat k.toNat, rfl, ?_, Nat.succ_pos _, fun s => Geo.play_area (fun z hz => ?_)⟩
    · have := CallP.area s.toNat k.toNat
      rw [in32_eq hs, in32_eq hk] at this
      exact this
    · exact hin z (by simp only [List.mem_cons, List.not_mem_nil, or_false] at hz ⊢; rcases hz with e | e <;> simp [e])
  | round s k x y t =>
    have hs := hin s (by simp)
    have hk := hin k (by simp)
    have hx := hin x (by simp)
    have hy := hin y (by simp)
    refine ⟨[8, s, k, x, y], .round s.toNat k.toNat x.toNat y.toNat, rfl, ?_, Nat.succ_pos _, fun s => Geo.play_round (fun z hz => ?_)⟩
    · have := CallP.round s.toNat k.toNat x.toNat y.toNat (by unfold Geo.In32 at hx; omega) (by unfold Geo.In32 at hy; omega)
      rw [in32_eq hs, in32_eq hk, in32_eq hx, in32_eq hy] at this
      exact this
    · exact hin z (by simp only [List.mem_cons, List.not_mem_nil, or_false] at hz ⊢; rcases hz with e | e | e | e <;> simp [e])
end PL
namespace PL
open PySem PySem.Spec PyProof.Rows L2 Evl
open Geo (Seg pz PLine Cand Tri Off)
/-! ### NUMBERS: a written dict with whole numbers as keys -/
def tabN : List (Int × Int) := [(1, 1), (2, 0), (3, 2), (4, 2), (5, 1), (6, 1), (7, 2), (8, 4)]
def tabD : List (Int × PyData) := tabN.map fun p => (p.1, PyData.int p.2)
theorem look_find : ∀ {es : List DictEntry} {D : List (Int × Int)}, KTD.numsLook es (D.map fun p => (p.1, PyData.int p.2)) = true → ∀ k v, D.lookup k = some v → ∃ t, (es.find? fun e => Value.isInt k e.key).map (·.val) = some (.int v t)
  | [], [], _, k, v, h => by simp at h
  | e :: es, (i, d) :: D, h, k, v, hk => by
    simp only [List.map_cons, KTD.numsLook, Bool.and_eq_true] at h
    obtain ⟨⟨⟨h1, h2⟩, h3⟩, h4⟩ := h
    split at h1
    · rename_i j t hkey
      have e1 : j = i := by simpa using h1
      subst e1
      rw [List.find?_cons]
      by_cases hj : k = j
      · subst hj
        rw [List.lookup_cons, beq_self_eq_true] at hk
        have hk : d = v := by simpa using hk
        subst hk
        have : Value.isInt k e.key = true := by rw [hkey]; simp [Value.isInt]
        rw [this]
        simp only [Option.map_some]
        have h3' := KTD.flat_of_looks h3
        cases hv : e.val with
        | int z t' =>
          rw [hv] at h3
          have : d = z := by simpa [KTD.flatLooks] using h3
          exact ⟨t', by rw [this]⟩
        | _ => rw [hv] at h3; simp [KTD.flatLooks] at h3
      · have : Value.isInt k e.key = false := by rw [hkey]; simp [Value.isInt]; exact fun z => hj z.symm
        rw [this]
        have hb : (k == j) = false := beq_eq_false_iff_ne.mpr hj
        rw [List.lookup_cons, hb] at hk
        exact look_find h4 k v hk
    · cases h1
  | [], _ :: _, h, _, _, _ => by simp [KTD.numsLook] at h
  | _ :: _, [], h, _, _, _ => by simp [KTD.numsLook] at h
def rNums (d : Addr) : R2 := fun x y H Q => ∃ (i v : Int), x = .ref d ∧ y = .int i ∧ tabN.lookup i = some v ∧ Q (.int v) H
theorem ix_nums {X : Cx} {d : Addr} {es : Array DictEntry} {n : Nat} (hl : X.K.lookup d = some ⟨.type "dict", none, .dict es n, #[]⟩) (hk : KTD.numsLook es.toList tabD = true) : IxR X (rNums d) := by
  intro value slice pins s σ H x y v u Q I rx ry h hs
  obtain ⟨i, v0, rfl, rfl, e, q⟩ := h
  cases rx
  obtain ⟨t, rfl⟩ := ry
  have ho := I.kIn _ _ hl
  have hT : s.TypeIs (.ref d) "dict" := ⟨_, ho, rfl⟩
  obtain ⟨t', hf⟩ := look_find hk i v0 e
  have hm : s.heap.MapOf (intKind X.prog X.w) d (fun k => findBy Value.isInt es k) := ⟨_, es, n, ho, ⟨rfl, rfl, rfl⟩, rfl, fun e he => (KTD.nums_of_look X.prog X.w hk).1 e (Array.mem_toList_iff.mpr he), fun _ => rfl⟩
  refine tail_any hT PySem.F.slot_dict_getitem.lookup (wpAny_getItem_of (knd := intKind X.prog X.w) (intKind_is _ _ i t) hm (v := .int v0 t') ?_ ⟨.int v0, H, I.tok _, ⟨_, rfl⟩, q⟩) hs
  show (es.find? fun e => Value.isInt i e.key).map (·.val) = _
  rw [← hf]
  obtain ⟨l⟩ := es
  rw [List.find?_toArray]
theorem rv_nums {H : Hp} {d : Addr} {i v : Int} (h : tabN.lookup i = some v) : RV (rNums d) (.ref d) (.int i) H (.int v) := fun H1 _ _ q => ⟨i, v, rfl, rfl, h, q H1 (Ex.refl H1)⟩
/-- what the top has written of NUMBERS -/
structure Nm (K : PySem.W.Frag) (mg : Str → Option Value) : Prop where
  ex : ∃ d es n, mg "NUMBERS" = some (.ref d) ∧ K.lookup d = some ⟨.type "dict", none, .dict es n, #[]⟩ ∧ KTD.numsLook es.toList tabD = true
/-! ### length_at -/
abbrev sLen : Stmt := top 52
def spLen (K : PySem.W.Frag) : Sp := fun vs H Q _ => ∃ (a : Addr) (at_ : Nat) (ns pre t : List Int) (x : Mm01.Call), vs = [.ref a, .int (at_ : Int)] ∧ SqL K H a (ns.map V.int) ∧ ns.drop at_ = pre ++ t ∧ CallP pre x ∧ RetV (.int (pre.length : Int)) H Q
theorem svLen {K : PySem.W.Frag} {H : Hp} {a : Addr} {at_ : Nat} {ns pre t : List Int} {x : Mm01.Call} (h : SqL K H a (ns.map V.int)) (hd : ns.drop at_ = pre ++ t) (hc : CallP pre x) : SpV (spLen K) [.ref a, .int (at_ : Int)] H (.int (pre.length : Int)) := fun H1 e Q k E => ⟨a, at_, ns, pre, t, x, rfl, ex_l e h, hd, hc, k⟩
theorem drop_get {ns pre t : List Int} {k i : Nat} {z : Int} (hd : ns.drop k = pre ++ t) (hz : pre[i]? = some z) : (ns.map V.int)[k + i]? = some (.int z) := by
  have h1 : (ns.drop k)[i]? = some z := by
    rw [hd, List.getElem?_append_left (List.getElem?_eq_some_iff.mp hz).1]
    exact hz
  rw [List.getElem?_drop] at h1
  rw [List.getElem?_map, h1]
  rfl
section
variable {P : Program} {w : World} {K : PySem.W.Frag} {mg : Str → Option Value} {base : Heap}
theorem scLen : FnScope ["calls", "at"] ["calls", "at"] (defScope sLen) := ⟨rfl, rfl, rfl, by decide +kernel, rfl, by decide +kernel, by decide +kernel⟩
theorem ok_len {f : Addr} {fd : FuncData} (F : Fun K "length_at" "length_at" sLen f fd) (N : Cm mg) (M : Nm K mg) : FnOk P w K mg base CX0 1 f fd ["calls", "at"] (spLen K) := by
  refine F.ok scLen (fun vs H Q E h => ?_) (fun cdv A outer s H vs Q E hr h => ?_)
  · obtain ⟨a, at_, ns, pre, t, x, rfl, _⟩ := h
    rfl
  · obtain ⟨a, at_, ns, pre, t, x, rfl, hs, hd, hc, k⟩ := h
    obtain ⟨t0, g0⟩ := N.c0
    obtain ⟨d, es, n, gN, hl, hk⟩ := M.ex
    refine ⟨_, pss_cons (ps_if (pt_cmpR op_eq (pe_ix ix_list (pv 0) (pv 1) (fun _ _ => rfl)) (pe_glob (v := .int 0) rfl g0 ⟨_, rfl⟩) (nomark _)) (pss_one (ps_ret (pe_op op_add pe_int (pe_ix ix_list (pv 0) (pe_op op_add (pv 1) pe_int) (fun _ _ => rfl))))) pss_nil)
      (pss_one (ps_ret (pe_op op_add pe_int (pe_ix (ix_nums hl hk) (pe_glob (v := .ref d) rfl gN rfl) (pe_ix ix_list (pv 0) (pv 1) (fun _ _ => rfl)) (fun _ _ => rfl))))), ?_⟩
    have first : ∀ (z : Int), pre[0]? = some z → ∀ (σ : L2.St) H1, Ex H H1 → σ[0]? = some (some (.ref a)) → σ[1]? = some (some (.int (at_ : Int))) → Ev (tOp (rIxL K) (tVar 0) (tVar 1)) σ H1 (.int z) := fun z hz σ H1 e h0 h1 =>
      ev_op (ev_var h0) (ev_var h1) (rv_ixL (ex_l e hs) (atI_nat (drop_get (i := 0) hd hz)))
    have other : ∀ (z v : Int), pre[0]? = some z → z ≠ 0 → tabN.lookup z = some v → 1 + v = (pre.length : Int) →
        tSeq (tIfS (tTest (tOp rEq (tOp (rIxL K) (tVar 0) (tVar 1)) (tC (.int 0)))) (tRet (tOp (rI0 fun i j => .int (i + j)) (tC (.int 3)) (tOp (rIxL K) (tVar 0) (tOp (rI0 fun i j => .int (i + j)) (tVar 1) (tC (.int 2)))))) tNext)
          (tRet (tOp (rI0 fun i j => .int (i + j)) (tC (.int 1)) (tOp (rNums d) (tC (.ref d)) (tOp (rIxL K) (tVar 0) (tVar 1))))) { nx := fun _ H' => Q .non H', rt := Q } [some (.ref a), some (.int (at_ : Int))] H := fun z v hz h0 hv hlen => by
      refine q_when (et_is (et_test (ev_op (first z hz _ H (Ex.refl H) rfl rfl) ev_c (rv_eq rfl))) (decV _ _)) (fun hb H1 e1 => ?_) (fun hb H1 e1 => ?_)
      · exact absurd (of_decide_eq_true hb) h0
      · exact s_ret (ev_is (ev_op ev_c (ev_op ev_c (first z hz _ H1 e1 rfl rfl) (rv_nums hv)) rv_I0) (by rw [hlen])) fun H2 e2 => k H2 (e1.trans e2)
    cases hc with
    | line r row hrow =>
      refine q_when (et_is (et_test (ev_op (first 0 rfl _ H (Ex.refl H) rfl rfl) ev_c (rv_eq rfl))) (decV _ _)) (fun hb H1 e1 => ?_) (fun hb H1 e1 => ?_)
      · refine s_ret (ev_is (ev_op ev_c (ev_op (ev_var rfl) (ev_op (ev_var rfl) ev_c rv_I0) (rv_ixL (v := .int (row.length : Int)) (ex_l e1 hs) ?_)) rv_I0) ?_) fun H2 e2 => k H2 (e1.trans e2)
        · have : ((at_ : Int) + 2) = ((at_ + 2 : Nat) : Int) := by omega
          rw [this]
          exact atI_nat (drop_get (i := 2) hd rfl)
        · congr 1
          simp only [List.length_cons, List.length_map]
          omega
      · exact absurd rfl (of_decide_eq_false hb)
    | drop k => exact other 1 1 rfl (by decide) rfl rfl
    | order => exact other 2 0 rfl (by decide) rfl rfl
    | worth k i => exact other 3 2 rfl (by decide) rfl rfl
    | shown t k => exact other 4 2 rfl (by decide) rfl rfl
    | counts t => exact other 5 1 rfl (by decide) rfl rfl
    | few n => exact other 6 1 rfl (by decide) rfl rfl
    | area t k => exact other 7 2 rfl (by decide) rfl rfl
    | round t k x y hx hy => exact other 8 4 rfl (by decide) rfl rfl
end
abbrev dLen (P : Program) (w : World) (K : PySem.W.Frag) (mg : Str → Option Value) (base : Heap) : Prop := Dn P w K mg base 1 "length_at" ["calls", "at"] (spLen K)
end PL
namespace PL
open PySem PySem.Spec PyProof.Rows L2 Evl
open Geo (Seg pz PLine Cand Tri Off)
theorem pe_m {X : Cx} {C : Addr} {k n : Nat} {x : Str} {ps : List Str} {sp : Sp} {o e : Expr} {es : List Expr} {ta : TE} {t : TA} {apos pos : Pos} {pl : Sem Bool} (D : Mn X.prog X.w X.K X.mg X.base C k x ps sp) (c : Cls X.K C) (hr : Room n X.A) (hn : k ≤ n) (he : PE X o ta) (ha : PA X (e :: es) t)
    (hst : starEach (e :: es) X.env = (false, eval e X.env) :: starEach es X.env := by rfl) (hpl : (backTo pos (starEach es X.env)).any (·.1) = false := by rfl)
    (ht : eval (.Call (.Attribute o x apos) (e :: es) [] pos) X.env = (do
      let ov ← eval o X.env
      standAt apos.atName
      let (f, first) ← holding [ov] (getMethod ov x pl)
      callWith pos f first (backTo pos (starEach (e :: es) X.env)) (backToKw pos (keywordEach [] X.env))) := by rfl) :
    PE X (.Call (.Attribute o x apos) (e :: es) [] pos) (tMeth C x sp [] E0 ta t) := by
  obtain ⟨f, fd, F, hm, hb⟩ := D.ex
  exact pe_meth he c hm F (hr.mono hn) hb .nil pass0 ha hst hpl ht
theorem pe_m0 {X : Cx} {C : Addr} {k n : Nat} {x : Str} {ps : List Str} {sp : Sp} {o : Expr} {ta : TE} {apos pos : Pos} {pl : Sem Bool} (D : Mn X.prog X.w X.K X.mg X.base C k x ps sp) (c : Cls X.K C) (hr : Room n X.A) (hn : k ≤ n) (he : PE X o ta)
    (ht : eval (.Call (.Attribute o x apos) [] [] pos) X.env = (do
      let ov ← eval o X.env
      standAt apos.atName
      let (f, first) ← holding [ov] (getMethod ov x pl)
      callWith pos f first (backTo pos (starEach [] X.env)) (backToKw pos (keywordEach [] X.env))) := by rfl) :
    PE X (.Call (.Attribute o x apos) [] [] pos) (tMeth C x sp [] E0 ta tNil) := by
  obtain ⟨f, fd, F, hm, hb⟩ := D.ex
  exact pe_meth0 he c hm F (hr.mono hn) hb .nil pass0 ht
theorem RetM.mono {CM CL G : Addr} {m l : Addr} {L : List PLine} {ans : List Int} {H H1 : Hp} {Q : VK} (e : Ex H H1) (k : RetM CM CL G m l L ans H Q) : RetM CM CL G m l L ans H1 Q := fun H' p kp M hp h => k H' p ((Kp.of e).trans kp) M (fresh_back e hp) h
section
variable {K : PySem.W.Frag} {σ : L2.St} {H : Hp} {ta : TA} {tz tu : TS} {D : Ends} {CM CL G m l b : Addr} {L : List PLine} {xs : List V}
theorem q_skip {n k : Int} (h : H b = some (.lst xs)) (h0 : xs[0]? = some (.int n)) (hσ : σ[1]? = some (some (.ref b))) (hne : n ≠ k) (kk : ∀ H1, Ex H H1 → tz D σ H1) :
    tSeq (tIfS (tTest (tOp rEq (tOp (rIxL K) (tVar 1) (tC (.int 0))) (tC (.int k)))) tu tNext) tz D σ H :=
  q_when (et_is (et_test (ev_op (ev_op (ev_var hσ) ev_c (rv_ixL (sq_of h) (atI_nat (j := 0) h0))) ev_c (rv_eq rfl))) (decV _ _)) (fun hb H1 e1 => absurd (of_decide_eq_true hb) hne) (fun hb H1 e1 => kk H1 e1)
theorem q_take {n k : Int} (h : H b = some (.lst xs)) (h0 : xs[0]? = some (.int n)) (hσ : σ[1]? = some (some (.ref b))) (he : n = k) (kk : ∀ H1, Ex H H1 → tu { D with nx := tz D } σ H1) :
    tSeq (tIfS (tTest (tOp rEq (tOp (rIxL K) (tVar 1) (tC (.int 0))) (tC (.int k)))) tu tNext) tz D σ H :=
  q_when (et_is (et_test (ev_op (ev_op (ev_var hσ) ev_c (rv_ixL (sq_of h) (atI_nat (j := 0) h0))) ev_c (rv_eq rfl))) (decV _ _)) (fun hb H1 e1 => kk H1 e1) (fun hb H1 e1 => absurd he (of_decide_eq_false hb))
theorem s_meth {x : Str} {sp : Sp} {vs : List V} (M : MapAt CM CL G H m l L) (hx : (x == "lines") = false) (hσ : σ[0]? = some (some (.ref m))) (ha : EvA ta σ H vs) (hs : ∀ H2, Ex H H2 → sp (.ref m :: vs) H2 D.rt E0) : tRet (tMeth CM x sp [] E0 (tVar 0) ta) D σ H := by
  obtain ⟨dx, hob⟩ := M.ob
  refine ⟨_, hσ, m, dx, _, rfl, hob, mF_no l hx, ha H (Ex.refl H) _ fun H2 e2 => ?_⟩
  rw [List.append_nil]
  exact hs H2 e2
theorem ev_at {i : Nat} {v : V} (h : H b = some (.lst xs)) (hi : xs[i]? = some v) (hσ : σ[1]? = some (some (.ref b))) : Ev (tOp (rIxL K) (tVar 1) (tC (.int (i : Int)))) σ H v := ev_op (ev_var hσ) ev_c (rv_ixL (sq_of h) (atI_nat hi))
end
/-! ### answer_one -/
abbrev sOne : Stmt := top 51
def spOne (CM CL : Addr) : Sp := fun vs H Q _ => ∃ (G m l b : Addr) (L : List PLine) (pre : List Int) (x : Mm01.Call), vs = [.ref m, .ref b] ∧ MapAt CM CL G H m l L ∧ LinesOk L ∧ H b = some (.lst (pre.map V.int)) ∧ b ≠ l ∧ CallP pre x ∧ RetM CM CL G m l (stepL L x).1 (stepL L x).2 H Q
section
variable {P : Program} {w : World} {K : PySem.W.Frag} {mg : Str → Option Value} {base : Heap} {CM CL : Addr}
theorem scOne : FnScope ["the_map", "call"] ["the_map", "call"] (defScope sOne) := ⟨rfl, rfl, rfl, by decide +kernel, rfl, by decide +kernel, by decide +kernel⟩
theorem ok_one {f : Addr} {fd : FuncData} (F : Fun K "answer_one" "answer_one" sOne f fd) (N : Cm mg) (T : TM K mg CM)
    (D0 : Mn P w K mg base CM 6 "line" ["self", "ring", "numbers"] (spMLine CM CL)) (D1 : Mn P w K mg base CM 1 "drop" ["self", "k"] (spMDrop CM CL)) (D2 : Mn P w K mg base CM 6 "order" ["self"] (spMOrder CM CL))
    (D3 : Mn P w K mg base CM 7 "worth" ["self", "k", "i"] (spMWorth CM CL)) (D4 : Mn P w K mg base CM 8 "shown" ["self", "t", "k"] (spMShown CM CL)) (D5 : Mn P w K mg base CM 8 "counts" ["self", "t"] (spMCounts CM CL))
    (D6 : Mn P w K mg base CM 6 "few" ["self", "n"] (spMFew CM CL)) (D7 : Mn P w K mg base CM 9 "area" ["self", "t", "k"] (spMArea CM CL)) (D8 : Mn P w K mg base CM 9 "turns" ["self", "t", "k", "place"] (spMTurns CM CL)) :
    FnOk P w K mg base CX0 10 f fd ["the_map", "call"] (spOne CM CL) := by
  refine F.ok scOne (fun vs H Q E h => ?_) (fun cdv A outer s H vs Q E hr h => ?_)
  · obtain ⟨G, m, l, b, L, pre, x, rfl, _⟩ := h
    rfl
  · obtain ⟨G, m, l, b, L, pre, x, rfl, M, ok, hb, hbl, hc, k⟩ := h
    obtain ⟨t0, g0⟩ := N.c0
    obtain ⟨t1, g1⟩ := N.c1
    obtain ⟨t2, g2⟩ := N.c2
    obtain ⟨t3, g3⟩ := N.c3
    obtain ⟨t4, g4⟩ := N.c4
    obtain ⟨t5, g5⟩ := N.c5
    obtain ⟨t6, g6⟩ := N.c6
    obtain ⟨t7, g7⟩ := N.c7
    refine ⟨_, pss_cons (ps_if (pt_cmpR op_eq (pe_ix ix_list (pv 1) pe_int (fun _ _ => rfl)) (pe_glob (v := .int 0) rfl g0 ⟨_, rfl⟩) (nomark _)) (pss_one (ps_ret (pe_m D0 T.cl hr (by decide) (pv 0) (pa_cons (pe_ix ix_list (pv 1) pe_int (fun _ _ => rfl)) (pa_cons (pe_slice sl_list (pv 1) (po_some pe_int) po_none) pa_nil))))) pss_nil)
      (pss_cons (ps_if (pt_cmpR op_eq (pe_ix ix_list (pv 1) pe_int (fun _ _ => rfl)) (pe_glob (v := .int 1) rfl g1 ⟨_, rfl⟩) (nomark _)) (pss_one (ps_ret (pe_m D1 T.cl hr (by decide) (pv 0) (pa_cons (pe_ix ix_list (pv 1) pe_int (fun _ _ => rfl)) pa_nil)))) pss_nil)
      (pss_cons (ps_if (pt_cmpR op_eq (pe_ix ix_list (pv 1) pe_int (fun _ _ => rfl)) (pe_glob (v := .int 2) rfl g2 ⟨_, rfl⟩) (nomark _)) (pss_one (ps_ret (pe_m0 D2 T.cl hr (by decide) (pv 0)))) pss_nil)
      (pss_cons (ps_if (pt_cmpR op_eq (pe_ix ix_list (pv 1) pe_int (fun _ _ => rfl)) (pe_glob (v := .int 3) rfl g3 ⟨_, rfl⟩) (nomark _)) (pss_one (ps_ret (pe_m D3 T.cl hr (by decide) (pv 0) (pa_cons (pe_ix ix_list (pv 1) pe_int (fun _ _ => rfl)) (pa_cons (pe_ix ix_list (pv 1) pe_int (fun _ _ => rfl)) pa_nil))))) pss_nil)
      (pss_cons (ps_if (pt_cmpR op_eq (pe_ix ix_list (pv 1) pe_int (fun _ _ => rfl)) (pe_glob (v := .int 4) rfl g4 ⟨_, rfl⟩) (nomark _)) (pss_one (ps_ret (pe_m D4 T.cl hr (by decide) (pv 0) (pa_cons (pe_ix ix_list (pv 1) pe_int (fun _ _ => rfl)) (pa_cons (pe_ix ix_list (pv 1) pe_int (fun _ _ => rfl)) pa_nil))))) pss_nil)
      (pss_cons (ps_if (pt_cmpR op_eq (pe_ix ix_list (pv 1) pe_int (fun _ _ => rfl)) (pe_glob (v := .int 5) rfl g5 ⟨_, rfl⟩) (nomark _)) (pss_one (ps_ret (pe_m D5 T.cl hr (by decide) (pv 0) (pa_cons (pe_ix ix_list (pv 1) pe_int (fun _ _ => rfl)) pa_nil)))) pss_nil)
      (pss_cons (ps_if (pt_cmpR op_eq (pe_ix ix_list (pv 1) pe_int (fun _ _ => rfl)) (pe_glob (v := .int 6) rfl g6 ⟨_, rfl⟩) (nomark _)) (pss_one (ps_ret (pe_m D6 T.cl hr (by decide) (pv 0) (pa_cons (pe_ix ix_list (pv 1) pe_int (fun _ _ => rfl)) pa_nil)))) pss_nil)
      (pss_cons (ps_if (pt_cmpR op_eq (pe_ix ix_list (pv 1) pe_int (fun _ _ => rfl)) (pe_glob (v := .int 7) rfl g7 ⟨_, rfl⟩) (nomark _)) (pss_one (ps_ret (pe_m D7 T.cl hr (by decide) (pv 0) (pa_cons (pe_ix ix_list (pv 1) pe_int (fun _ _ => rfl)) (pa_cons (pe_ix ix_list (pv 1) pe_int (fun _ _ => rfl)) pa_nil))))) pss_nil)
      (pss_one (ps_ret (pe_m D8 T.cl hr (by decide) (pv 0) (pa_cons (pe_ix ix_list (pv 1) pe_int (fun _ _ => rfl)) (pa_cons (pe_ix ix_list (pv 1) pe_int (fun _ _ => rfl)) (pa_cons (pe_tup (pa_cons (pe_ix ix_list (pv 1) pe_int (fun _ _ => rfl)) (pa_cons (pe_ix ix_list (pv 1) pe_int (fun _ _ => rfl)) pa_nil))) pa_nil))))))))))))), ?_⟩
    cases hc with
    | line r row hrow =>
      refine q_take hb rfl rfl rfl fun H1 e1 => ?_
      have M1 := M.ex e1
      have hb1 := e1 _ _ hb
      obtain ⟨dx, hob⟩ := M1.ob
      refine ⟨_, rfl, m, dx, _, rfl, hob, mF_no l (by decide +kernel), ?_⟩
      refine (ev_at (K := K) (i := 1) (v := .int (r : Int)) hb1 rfl rfl) H1 (Ex.refl H1) _ fun H2 e2 => ?_
      refine (el_sl (K := K) (lo := some 3) (hi := none) (ev_var rfl) (eo_some ev_c) eo_none (sq_of (e2 _ _ hb1))) H2 (Ex.refl H2) _ fun p H3 hp e3 h3 => ?_
      have M3 := M1.ex (e2.trans e3)
      have e03 := e1.trans (e2.trans e3)
      refine ⟨G, m, l, r, .ref p, L, row, rfl, M3, ⟨p, rfl, ?_⟩, hrow, ok, fun b' e => ?_, k.mono e03⟩
      · rw [h3]
        congr 2
        unfold cutV
        have : HT.sIx (((0 : Int) :: (r : Int) :: (row.length : Int) :: row.map fun (n : Nat) => (n : Int)).map V.int).length 0 (some 3) = 3 := by
          have := HT.sIx_nat (((0 : Int) :: (r : Int) :: (row.length : Int) :: row.map fun (n : Nat) => (n : Int)).map V.int).length 0 3
          refine Eq.trans this ?_
          simp only [List.length_map, List.length_cons]
          omega
        rw [this, HT.sIx_none, nV_eq]
        simp only [List.map_cons, List.drop_succ_cons, List.drop_zero]
        rw [List.take_of_length_le]
        simp only [List.length_map, List.length_cons]
        omega
      · cases e
        intro z
        obtain ⟨vs, hl, _⟩ := M1.ls
        have := e2 _ _ hl
        rw [← z, hp] at this
        cases this
    | drop n =>
      refine q_skip hb rfl rfl (by decide) fun H1 e1 => ?_
      have hb1 := e1 _ _ hb
      refine q_take hb1 rfl rfl rfl fun H2 e2 => ?_
      have e02 := e1.trans e2
      exact s_meth (D := { nx := _, rt := Q }) (M.ex e02) (by decide +kernel) rfl (ea_cons (ev_at (i := 1) (e02 _ _ hb) rfl rfl) ea_nil) fun H3 e3 => ⟨G, m, l, n, L, rfl, M.ex (e02.trans e3), ok, k.mono (e02.trans e3)⟩
    | order =>
      refine q_skip hb rfl rfl (by decide) fun H1 e1 => ?_
      refine q_skip (e1 _ _ hb) rfl rfl (by decide) fun H2 e2 => ?_
      have e02 := e1.trans e2
      refine q_take (e02 _ _ hb) rfl rfl rfl fun H3 e3 => ?_
      have e03 := e02.trans e3
      exact s_meth (D := { nx := _, rt := Q }) (M.ex e03) (by decide +kernel) rfl ea_nil fun H4 e4 => ⟨G, m, l, L, rfl, M.ex (e03.trans e4), ok, k.mono (e03.trans e4)⟩
    | worth n i =>
      refine q_skip hb rfl rfl (by decide) fun H1 e1 => ?_
      refine q_skip (e1 _ _ hb) rfl rfl (by decide) fun H2 e2 => ?_
      have e02 := e1.trans e2
      refine q_skip (e02 _ _ hb) rfl rfl (by decide) fun H3 e3 => ?_
      have e03 := e02.trans e3
      refine q_take (e03 _ _ hb) rfl rfl rfl fun H4 e4 => ?_
      have e04 := e03.trans e4
      have hb4 := e04 _ _ hb
      exact s_meth (D := { nx := _, rt := Q }) (M.ex e04) (by decide +kernel) rfl (ea_cons (ev_at (i := 1) hb4 rfl rfl) (ea_cons (ev_at (i := 2) hb4 rfl rfl) ea_nil)) fun H5 e5 => ⟨G, m, l, n, i, L, rfl, M.ex (e04.trans e5), ok, k.mono (e04.trans e5)⟩
    | shown t n =>
      refine q_skip hb rfl rfl (by decide) fun H1 e1 => ?_
      refine q_skip (e1 _ _ hb) rfl rfl (by decide) fun H2 e2 => ?_
      have e02 := e1.trans e2
      refine q_skip (e02 _ _ hb) rfl rfl (by decide) fun H3 e3 => ?_
      have e03 := e02.trans e3
      refine q_skip (e03 _ _ hb) rfl rfl (by decide) fun H4 e4 => ?_
      have e04 := e03.trans e4
      refine q_take (e04 _ _ hb) rfl rfl rfl fun H5 e5 => ?_
      have e05 := e04.trans e5
      have hb5 := e05 _ _ hb
      exact s_meth (D := { nx := _, rt := Q }) (M.ex e05) (by decide +kernel) rfl (ea_cons (ev_at (i := 1) hb5 rfl rfl) (ea_cons (ev_at (i := 2) hb5 rfl rfl) ea_nil)) fun H6 e6 => ⟨G, m, l, t, n, L, rfl, M.ex (e05.trans e6), ok, k.mono (e05.trans e6)⟩
    | counts t =>
      refine q_skip hb rfl rfl (by decide) fun H1 e1 => ?_
      refine q_skip (e1 _ _ hb) rfl rfl (by decide) fun H2 e2 => ?_
      have e02 := e1.trans e2
      refine q_skip (e02 _ _ hb) rfl rfl (by decide) fun H3 e3 => ?_
      have e03 := e02.trans e3
      refine q_skip (e03 _ _ hb) rfl rfl (by decide) fun H4 e4 => ?_
      have e04 := e03.trans e4
      refine q_skip (e04 _ _ hb) rfl rfl (by decide) fun H5 e5 => ?_
      have e05 := e04.trans e5
      refine q_take (e05 _ _ hb) rfl rfl rfl fun H6 e6 => ?_
      have e06 := e05.trans e6
      exact s_meth (D := { nx := _, rt := Q }) (M.ex e06) (by decide +kernel) rfl (ea_cons (ev_at (i := 1) (e06 _ _ hb) rfl rfl) ea_nil) fun H7 e7 => ⟨G, m, l, t, L, rfl, M.ex (e06.trans e7), ok, k.mono (e06.trans e7)⟩
    | few n =>
      refine q_skip hb rfl rfl (by decide) fun H1 e1 => ?_
      refine q_skip (e1 _ _ hb) rfl rfl (by decide) fun H2 e2 => ?_
      have e02 := e1.trans e2
      refine q_skip (e02 _ _ hb) rfl rfl (by decide) fun H3 e3 => ?_
      have e03 := e02.trans e3
      refine q_skip (e03 _ _ hb) rfl rfl (by decide) fun H4 e4 => ?_
      have e04 := e03.trans e4
      refine q_skip (e04 _ _ hb) rfl rfl (by decide) fun H5 e5 => ?_
      have e05 := e04.trans e5
      refine q_skip (e05 _ _ hb) rfl rfl (by decide) fun H6 e6 => ?_
      have e06 := e05.trans e6
      refine q_take (e06 _ _ hb) rfl rfl rfl fun H7 e7 => ?_
      have e07 := e06.trans e7
      exact s_meth (D := { nx := _, rt := Q }) (M.ex e07) (by decide +kernel) rfl (ea_cons (ev_at (i := 1) (e07 _ _ hb) rfl rfl) ea_nil) fun H8 e8 => ⟨G, m, l, n, L, rfl, M.ex (e07.trans e8), ok, k.mono (e07.trans e8)⟩
    | area t n =>
      refine q_skip hb rfl rfl (by decide) fun H1 e1 => ?_
      refine q_skip (e1 _ _ hb) rfl rfl (by decide) fun H2 e2 => ?_
      have e02 := e1.trans e2
      refine q_skip (e02 _ _ hb) rfl rfl (by decide) fun H3 e3 => ?_
      have e03 := e02.trans e3
      refine q_skip (e03 _ _ hb) rfl rfl (by decide) fun H4 e4 => ?_
      have e04 := e03.trans e4
      refine q_skip (e04 _ _ hb) rfl rfl (by decide) fun H5 e5 => ?_
      have e05 := e04.trans e5
      refine q_skip (e05 _ _ hb) rfl rfl (by decide) fun H6 e6 => ?_
      have e06 := e05.trans e6
      refine q_skip (e06 _ _ hb) rfl rfl (by decide) fun H7 e7 => ?_
      have e07 := e06.trans e7
      refine q_take (e07 _ _ hb) rfl rfl rfl fun H8 e8 => ?_
      have e08 := e07.trans e8
      have hb8 := e08 _ _ hb
      exact s_meth (D := { nx := _, rt := Q }) (M.ex e08) (by decide +kernel) rfl (ea_cons (ev_at (i := 1) hb8 rfl rfl) (ea_cons (ev_at (i := 2) hb8 rfl rfl) ea_nil)) fun H9 e9 => ⟨G, m, l, t, n, L, rfl, M.ex (e08.trans e9), ok, k.mono (e08.trans e9)⟩
    | round t n x y hx hy =>
      refine q_skip hb rfl rfl (by decide) fun H1 e1 => ?_
      refine q_skip (e1 _ _ hb) rfl rfl (by decide) fun H2 e2 => ?_
      have e02 := e1.trans e2
      refine q_skip (e02 _ _ hb) rfl rfl (by decide) fun H3 e3 => ?_
      have e03 := e02.trans e3
      refine q_skip (e03 _ _ hb) rfl rfl (by decide) fun H4 e4 => ?_
      have e04 := e03.trans e4
      refine q_skip (e04 _ _ hb) rfl rfl (by decide) fun H5 e5 => ?_
      have e05 := e04.trans e5
      refine q_skip (e05 _ _ hb) rfl rfl (by decide) fun H6 e6 => ?_
      have e06 := e05.trans e6
      refine q_skip (e06 _ _ hb) rfl rfl (by decide) fun H7 e7 => ?_
      have e07 := e06.trans e7
      refine q_skip (e07 _ _ hb) rfl rfl (by decide) fun H8 e8 => ?_
      have e08 := e07.trans e8
      have hb8 := e08 _ _ hb
      have M8 := M.ex e08
      obtain ⟨dx, hob⟩ := M8.ob
      refine ⟨_, rfl, m, dx, _, rfl, hob, mF_no l (by decide +kernel), ?_⟩
      refine (ev_at (K := K) (i := 1) (v := .int (t : Int)) hb8 rfl rfl) H8 (Ex.refl H8) _ fun H9 e9 => ?_
      have hb9 := e9 _ _ hb8
      refine (ev_at (K := K) (i := 2) (v := .int (n : Int)) hb9 rfl rfl) H9 (Ex.refl H9) _ fun H10 e10 => ?_
      have hb10 := e10 _ _ hb9
      refine (eu_tup (vs := [.int (x : Int), .int (y : Int)]) (ea_cons (ev_at (K := K) (i := 3) hb10 rfl rfl) (ea_cons (ev_at (K := K) (i := 4) hb10 rfl rfl) ea_nil)) (by show 2 ≤ 100000; decide)) H10 (Ex.refl H10) _ fun p H11 hp e11 h11 => ?_
      have eE := e08.trans ((e9.trans e10).trans e11)
      exact ⟨G, m, l, t, n, .ref p, ((x : Int), (y : Int)), L, rfl, M.ex eE, ok, ⟨p, rfl, h11⟩, ⟨⟨by show (0 : Int) ≤ (x : Int); omega, by show (x : Int) ≤ 4294967295; omega⟩, by show (0 : Int) ≤ (y : Int); omega, by show (y : Int) ≤ 4294967295; omega⟩, k.mono eE⟩
end
abbrev dOne (CM CL : Addr) (P : Program) (w : World) (K : PySem.W.Frag) (mg : Str → Option Value) (base : Heap) : Prop := Dn P w K mg base 10 "answer_one" ["the_map", "call"] (spOne CM CL)
end PL
namespace PL
open PySem PySem.Spec PyProof.Rows L2 Evl
open Geo (Seg pz PLine Cand Tri Off)
theorem LineX.kpG {C D G : Addr} {H H' : Hp} {acc : List V} (hG : H G = some (.lst acc)) (e : Kp G H H') {v : V} {q : PLine} (h : LineX C D G H v q) : LineX C D G H' v q := by
  obtain ⟨a, dx, l, h1, h2, h3, ⟨l', vs, h4, h5, h6⟩⟩ := h
  cases h4
  have et : ExT H H' := fun a xs z => e a _ (ne_of z hG (by intro z; cases z)) z
  exact ⟨a, dx, l, h1, e _ _ (ne_of h2 hG (by intro z; cases z)) h2, h3, l, vs, rfl, e _ _ h3.2 h5, h6.mono fun v x r => r.exT et⟩
/-- the answers' list written -/
theorem MapAt.given {CM CL G : Addr} {H : Hp} {m l : Addr} {L : List PLine} {acc us : List V} (h : MapAt CM CL G H m l L) (hG : H G = some (.lst acc)) (ne : l ≠ G) : MapAt CM CL G (upd H G (.lst us)) m l L := by
  obtain ⟨dx, h1⟩ := h.ob
  obtain ⟨vs, h2, h3⟩ := h.ls
  exact ⟨⟨dx, by rw [upd_ne (ne_of h1 hG (by intro z; cases z))]; exact h1⟩, ⟨vs, by rw [upd_ne ne]; exact h2, h3.mono fun v q r => r.kpG hG Kp.upd⟩, _, upd_same⟩
/-! ### answers -/
abbrev sAns : Stmt := top 53
def spAns (K : PySem.W.Frag) : Sp := fun vs H Q _ => ∃ (a : Addr) (ns : List Int), vs = [.ref a] ∧ SqL K H a (ns.map V.int) ∧ ns.length ≤ 1300 ∧ (∀ z ∈ ns, Geo.In32 z) ∧ PyMm01.answers_asked ns = true ∧ ∀ H' p, H' p = some (.lst ((PyMm01.answers ns).map V.int)) → Q (.ref p) H'
theorem cut_at {ns pre t : List Int} {k : Nat} (h : ns.drop k = pre ++ t) : cutV (ns.map V.int) (some (k : Int)) (some ((k : Int) + (pre.length : Int))) = pre.map V.int := by
  have hl : ns.length - k = pre.length + t.length := by
    have := congrArg List.length h
    rw [List.length_drop, List.length_append] at this
    exact this
  have e : ((k : Int) + (pre.length : Int)) = ((k + pre.length : Nat) : Int) := by omega
  unfold cutV
  rw [e, HT.sIx_nat, HT.sIx_nat, List.length_map, ← List.map_drop]
  by_cases hk : k ≤ ns.length
  · rw [Nat.min_eq_left hk, Nat.min_eq_left (by omega), h, List.map_append]
    have : k + pre.length - k = (pre.map V.int).length := by rw [List.length_map]; omega
    rw [this, List.take_left]
  · have : pre = [] := List.eq_nil_of_length_eq_zero (by omega)
    rw [this, List.drop_eq_nil_of_le (by omega)]
    simp
def AnsW (K : PySem.W.Frag) (CM CL : Addr) (ns : List Int) (H : Hp) (a m l gd : Addr) (n : Nat) (σ' : L2.St) (H' : Hp) : Prop := ∃ (at_ : Nat) (o4 o5 : Option V) (L : List PLine) (g : List Int) (cs : List (List (List Int))) (fu : Nat),
  σ' = [some (.ref a), some (.ref m), some (.ref gd), some (.int (at_ : Int)), o4, o5] ∧ Ex H H' ∧ MapAt CM CL gd H' m l L ∧ LinesOk L ∧ H' gd = some (.lst (g.map V.int)) ∧ PyFlat.calls PyMm01.shape fu (ns.drop at_) = some cs ∧
  PyMm01.answers ns = g ++ Geo.rest (specL L) cs ∧ g.length + 150 * cs.length ≤ 4500 ∧ at_ ≤ ns.length ∧ n = ns.length - at_
section
variable {P : Program} {w : World} {K : PySem.W.Frag} {mg : Str → Option Value} {base : Heap} {CM CL : Addr}
abbrev nAns : List Str := ["calls", "the_map", "given", "at", "length", "answer"]
theorem scAns : FnScope nAns ["calls"] (defScope sAns) := ⟨rfl, rfl, rfl, by decide +kernel, rfl, by decide +kernel, by decide +kernel⟩
theorem ok_ans {f fI : Addr} {fd fdI : FuncData} (F : Fun K "answers" "answers" sAns f fd) (B : Bi mg) (T : TM K mg CM) (DL : dLen P w K mg base) (DO : dOne CM CL P w K mg base)
    (MK : Mk K CM fI) (GI : FnOk P w K mg base CX0 1 fI fdI ["self"] (spMapInit CM)) (bI : Binds K fdI ["self"] []) : FnOk P w K mg base CX0 11 f fd ["calls"] (spAns K) := by
  refine F.ok scAns (fun vs H Q E h => ?_) (fun cdv A outer s H vs Q E hr h => ?_)
  · obtain ⟨a, ns, rfl, _⟩ := h
    rfl
  · obtain ⟨a, ns, rfl, hs, hlen, hin, hask, k⟩ := h
    obtain ⟨cs0, hcs, hne, h30, hbd⟩ := Geo.asked_calls hask
    have hr2 : Room 2 _ := hr.mono (by decide)
    refine ⟨_, pss_cons (ps_set (i := 1) scAns.nd rfl (Or.inl rfl) (pe_make0 MK GI hr2 rfl T.gC bI .nil pass0))
      (pss_cons (ps_set (i := 2) scAns.nd rfl (Or.inl rfl) (pe_lst pa_nil))
      (pss_cons (ps_set (i := 3) scAns.nd rfl (Or.inl rfl) pe_int)
      (pss_cons (ps_while PassesOwn.never (pt_cmpR op_lt (pv 3) (pe_callB call_len_seq (by rfl) B.len PySem.boot_len (pa_cons (pv 0) pa_nil)) (nomark _))
        (pss_cons (ps_set (i := 4) scAns.nd rfl (Or.inl rfl) (pe_d DL hr (by decide) rfl (pa_cons (pv 0) (pa_cons (pv 3) pa_nil))))
        (pss_cons (ps_set (i := 5) scAns.nd rfl (Or.inl rfl) (pe_d DO hr (by decide) rfl (pa_cons (pv 1) (pa_cons (pe_slice sl_list (pv 0) (po_some (pv 3)) (po_some (pe_op op_add (pv 3) (pv 4)))) pa_nil))))
        (pss_cons (ps_expr (pe_bm PySem.F.plainAttrs_list PySem.F.slot_list_append PySem.F.type_list_append mt_append (pv 2) (pa_cons (pe_callB call_len_seq (by rfl) B.len PySem.boot_len (pa_cons (pv 5) pa_nil)) pa_nil)))
        (pss_cons (ps_expr (pe_bm PySem.F.plainAttrs_list PySem.F.slot_list_extend PySem.F.type_list_extend mt_extend (pv 2) (pa_cons (pv 5) pa_nil)))
        (pss_one (ps_aug (i := 3) scAns.nd rfl (Or.inl rfl) (pv 4) ip_add)))))))
      (pss_one (ps_ret (pv 2)))))), ?_⟩
    -- the_map = Map()
    intro m dx hm hdx hne'
    refine ⟨H, m, dx, rfl, ?_, hm, upd_same, fun H1 l e1 hl hob hls => ⟨rfl, ?_⟩⟩
    · exact Ex.mut (Ex.new hdx) hm
    show tSeq _ _ _ _ _
    refine q_asgL (el_lst ea_nil (by decide)) fun gd H2 hgd e2 d2 => ?_
    refine q_asg ev_c fun H3 e3 => ?_
    have e23 := e2.trans e3
    have e13 := e1.trans e23
    have gdH : H gd = none := fresh_back e1 hgd
    have lgd : l ≠ gd := fun z => by rw [← z, hls] at hgd; cases hgd
    obtain ⟨dx', hob⟩ := hob
    have M3 : MapAt CM CL gd H3 m l [] := ⟨⟨dx', e23 _ _ hob⟩, ⟨[], e23 _ _ hls, trivial⟩, _, e3 _ _ d2⟩
    have W0 : AnsW K CM CL ns H a m l gd (ns.length - 0) [some (.ref a), some (.ref m), some (.ref gd), some (.int ((0 : Nat) : Int)), none, none] H3 :=
      ⟨0, none, none, [], [], cs0, ns.length, rfl, e13, M3, ⟨(fun q hq => by cases hq), (fun q hq => by cases hq), Nat.zero_le _⟩, e3 _ _ d2, by rw [List.drop_zero]; exact hcs, by rw [Geo.answers_eq hcs]; rfl, by show 0 + 150 * cs0.length ≤ 4500; omega, Nat.zero_le _, rfl⟩
    refine q_while (AnsW K CM CL ns H a m l gd) _ W0 ?_
    rintro n σ' H' ⟨at_, o4, o5, L, g, cs, fu, rfl, eH, M, ok, hg, hcal, hans, hsz, hat, rfl⟩
    refine ⟨_, et_test (ev_op (ev_var rfl) (ev_len (K := K) (ev_var rfl) (ex_l eH hs)) rv_I0), fun hb H4 e4 => ?_, fun hb H4 e4 => ?_⟩
    · have hlt : at_ < ns.length := by
        have := of_decide_eq_true hb
        rw [List.length_map] at this
        omega
      refine ⟨fun σ2 H2 => ∃ m', m' < ns.length - at_ ∧ AnsW K CM CL ns H a m l gd m' σ2 H2, fun σ2 H2 z => z, ?_⟩
      -- the call that stands there
      obtain ⟨p, r, hpr⟩ : ∃ p r, ns.drop at_ = p :: r := by
        cases e : ns.drop at_ with
        | nil =>
          have := congrArg List.length e
          rw [List.length_drop] at this
          simp at this
          omega
        | cons p r => exact ⟨p, r, rfl⟩
      rw [hpr] at hcal
      obtain ⟨fu', c, t, cs', rfl, hc1, hc2, rfl⟩ := Geo.calls_cons hcal
      have hci := Geo.call_is hc1
      rw [← hpr] at hci
      obtain ⟨pre, x, hpt, hcp, hpos, hplay⟩ := callP_of hci (fun z hz => hin z (List.mem_of_mem_drop hz)) (by rw [List.length_drop]; omega)
      have eH4 := eH.trans e4
      have M4 := M.ex e4
      have hg4 := e4 _ _ hg
      refine q_asg (v := .int (pre.length : Int)) (ev_call (ea_cons (ev_var rfl) (ea_cons (ev_var rfl) ea_nil)) (svLen (ex_l eH4 hs) hpt hcp)) fun H5 e5 => ?_
      have eH5 := eH4.trans e5
      -- answer = answer_one(the_map, calls[at:at + length])
      refine ⟨_, rfl, ?_⟩
      refine (el_sl (K := K) (te := tVar 0) (tl := tPart (tVar 3)) (th := tPart (tOp (rI0 fun i j => .int (i + j)) (tVar 3) (tVar 4))) (σ := [some (.ref a), some (.ref m), some (.ref gd), some (.int (at_ : Int)), some (.int (pre.length : Int)), o5]) (H := H5) (a := a) (xs := ns.map V.int) (lo := some (at_ : Int)) (hi := some ((at_ : Int) + (pre.length : Int))) (ev_var rfl) (eo_some (ev_var rfl)) (eo_some (ev_op (ev_var rfl) (ev_var rfl) rv_I0)) (ex_l eH5 hs)) H5 (Ex.refl H5) _ fun b H6 hb6 e6 h6 => ?_
      rw [cut_at hpt] at h6
      have M6 := M4.ex (e5.trans e6)
      have hg6 := (e5.trans e6) _ _ hg4
      have eH6 := eH5.trans e6
      have lH : H l = none := hl
      have bl : b ≠ l := fun z => by
        obtain ⟨vs, hl6, _⟩ := (M4.ex e5).ls
        rw [z, hl6] at hb6
        cases hb6
      refine ⟨gd, m, l, b, L, pre, x, rfl, M6, ok, h6, bl, hcp, fun H7 q kp M7 hq h7 => ?_⟩
      have hg7 := kp _ _ lgd.symm hg6
      have eH7 : Ex H H7 := fun b' o' z => kp b' o' (ne_of_none z lH) (eH6 _ _ z)
      have ok' := stepL_ok ok x
      have al := stepL_len ok x
      have hstep := step_stepL ok x
      generalize stepL L x = st at M7 h7 ok' al hstep
      obtain ⟨L', ans⟩ := st
      simp only at M7 h7 ok' al hstep
      have qg : q ≠ gd := fun z => by rw [z, hg6] at hq; cases hq
      have csl : (c :: cs').length = cs'.length + 1 := rfl
      rw [csl] at hsz
      show tSeq _ _ _ _ _
      refine q_app (K := K) (l := gd) (xs := g.map V.int) hg7 (ev_var rfl) (ev_len (K := K) (ev_var rfl) (sq_of h7)) (by rw [List.length_map]; omega) fun H8 e8 => ?_
      have hg8 := e8 _ _ hg7
      have M8 := M7.ex e8
      have h8 := e8 _ _ h7
      have M9 := M8.given (us := g.map V.int ++ [.int ((ans.map V.int).length : Int)]) hg8 lgd
      have eH9 : Ex H (upd H8 gd (.lst (g.map V.int ++ [.int ((ans.map V.int).length : Int)]))) := Ex.mut (eH7.trans e8) gdH
      have hq9 : (upd H8 gd (.lst (g.map V.int ++ [.int ((ans.map V.int).length : Int)]))) q = some (.lst (ans.map V.int)) := by rw [upd_ne qg]; exact h8
      have hg9 : (upd H8 gd (.lst (g.map V.int ++ [.int ((ans.map V.int).length : Int)]))) gd = some (.lst ((g ++ [(ans.length : Int)]).map V.int)) := by
        rw [upd_same, List.map_append, List.length_map]
        rfl
      generalize (upd H8 gd (.lst (g.map V.int ++ [.int ((ans.map V.int).length : Int)]))) = H9 at M9 eH9 hq9 hg9
      refine ⟨_, rfl, .inl ⟨rfl, _, sq_of hg9⟩, _, rfl, gd, q, _, _, rfl, rfl, hg9, hq9, sz_of (by rw [List.length_map, List.length_map, List.length_append, List.length_singleton]; omega), ?_⟩
      have M10 := M9.given (us := (g ++ [(ans.length : Int)]).map V.int ++ ans.map V.int) hg9 lgd
      have eH10 : Ex H (upd H9 gd (.lst ((g ++ [(ans.length : Int)]).map V.int ++ ans.map V.int))) := Ex.mut eH9 gdH
      have hg10 : (upd H9 gd (.lst ((g ++ [(ans.length : Int)]).map V.int ++ ans.map V.int))) gd = some (.lst ((g ++ [(ans.length : Int)] ++ ans).map V.int)) := by
        rw [upd_same, List.map_append (l₁ := g ++ [(ans.length : Int)])]
      generalize (upd H9 gd (.lst ((g ++ [(ans.length : Int)]).map V.int ++ ans.map V.int))) = H10 at M10 eH10 hg10
      refine s_aug (f := fun i j => i + j) (a := (at_ : Int)) (b := (pre.length : Int)) rfl (ev_var rfl) fun H11 e11 => ?_
      have hdl : ns.length - at_ = pre.length + t.length := by
        have := congrArg List.length hpt
        rw [List.length_drop, List.length_append] at this
        exact this
      have hdt : ns.drop (at_ + pre.length) = t := by
        rw [← List.drop_drop, hpt, List.drop_left]
      have ec : ((at_ : Int) + (pre.length : Int)) = ((at_ + pre.length : Nat) : Int) := by omega
      refine ⟨ns.length - (at_ + pre.length), by omega, at_ + pre.length, some (.int (pre.length : Int)), some (.ref q), L', g ++ [(ans.length : Int)] ++ ans, cs', fu', ?_, eH10.trans e11, M10.ex e11, ok', e11 _ _ hg10, ?_, ?_, ?_, by omega, rfl⟩
      · rw [← ec]
        rfl
      · rw [hdt]
        exact hc2
      · rw [hans, Geo.rest_cons, hplay, hstep]
        simp only [List.append_assoc, List.cons_append, List.nil_append]
      · rw [List.length_append, List.length_append, List.length_singleton]
        omega
    · have hge : at_ = ns.length := by
        have := of_decide_eq_false hb
        rw [List.length_map] at this
        omega
      rw [hge, List.drop_length, Geo.calls_nil] at hcal
      have hcal := Option.some.inj hcal
      rw [← hcal, Geo.rest_nil, List.append_nil] at hans
      refine s_ret (ev_var rfl) fun H5 e5 => k H5 gd ?_
      rw [hans]
      exact e5 _ _ (e4 _ _ hg)
end
end PL
namespace PL
open PySem PySem.Spec PyProof.Rows L2 Evl
set_option maxHeartbeats 0 in
theorem all_mk {P : Program} {w : World} {K : PySem.W.Frag} {h : Heap} {mg : Str → Option Value} {fa : Addr} (X : K.In h) (G : h.Ns mainGlobals mg) (hfa : mg "answers" = some (.ref fa))
    {C_Line : Addr}
    {f_Line_init : Addr} {od_Line_init an_Line_init : Option Addr} {sl_Line_init : Array (Option Value)} {oc_Line_init kV_Line_init dc_Line_init pm_Line_init cd_Line_init ct_Line_init : Value}
    {C_Map : Addr}
    {f_Map_init : Addr} {od_Map_init an_Map_init : Option Addr} {sl_Map_init : Array (Option Value)} {oc_Map_init kV_Map_init dc_Map_init pm_Map_init cd_Map_init ct_Map_init : Value}
    {f_Map_line : Addr} {od_Map_line an_Map_line : Option Addr} {sl_Map_line : Array (Option Value)} {oc_Map_line kV_Map_line dc_Map_line pm_Map_line cd_Map_line ct_Map_line : Value}
    {f_Map_drop : Addr} {od_Map_drop an_Map_drop : Option Addr} {sl_Map_drop : Array (Option Value)} {oc_Map_drop kV_Map_drop dc_Map_drop pm_Map_drop cd_Map_drop ct_Map_drop : Value}
    {f_Map_order : Addr} {od_Map_order an_Map_order : Option Addr} {sl_Map_order : Array (Option Value)} {oc_Map_order kV_Map_order dc_Map_order pm_Map_order cd_Map_order ct_Map_order : Value}
    {f_Map_worth : Addr} {od_Map_worth an_Map_worth : Option Addr} {sl_Map_worth : Array (Option Value)} {oc_Map_worth kV_Map_worth dc_Map_worth pm_Map_worth cd_Map_worth ct_Map_worth : Value}
    {f_Map_shown : Addr} {od_Map_shown an_Map_shown : Option Addr} {sl_Map_shown : Array (Option Value)} {oc_Map_shown kV_Map_shown dc_Map_shown pm_Map_shown cd_Map_shown ct_Map_shown : Value}
    {f_Map_counts : Addr} {od_Map_counts an_Map_counts : Option Addr} {sl_Map_counts : Array (Option Value)} {oc_Map_counts kV_Map_counts dc_Map_counts pm_Map_counts cd_Map_counts ct_Map_counts : Value}
    {f_Map_few : Addr} {od_Map_few an_Map_few : Option Addr} {sl_Map_few : Array (Option Value)} {oc_Map_few kV_Map_few dc_Map_few pm_Map_few cd_Map_few ct_Map_few : Value}
    {f_Map_area : Addr} {od_Map_area an_Map_area : Option Addr} {sl_Map_area : Array (Option Value)} {oc_Map_area kV_Map_area dc_Map_area pm_Map_area cd_Map_area ct_Map_area : Value}
    {f_Map_turns : Addr} {od_Map_turns an_Map_turns : Option Addr} {sl_Map_turns : Array (Option Value)} {oc_Map_turns kV_Map_turns dc_Map_turns pm_Map_turns cd_Map_turns ct_Map_turns : Value}
    {f_bend : Addr} {od_bend an_bend : Option Addr} {sl_bend : Array (Option Value)} {oc_bend kV_bend dc_bend pm_bend cd_bend ct_bend : Value}
    {f_in_box : Addr} {od_in_box an_in_box : Option Addr} {sl_in_box : Array (Option Value)} {oc_in_box kV_in_box dc_in_box pm_in_box cd_in_box ct_in_box : Value}
    {f_in_triangle : Addr} {od_in_triangle an_in_triangle : Option Addr} {sl_in_triangle : Array (Option Value)} {oc_in_triangle kV_in_triangle dc_in_triangle pm_in_triangle cd_in_triangle ct_in_triangle : Value}
    {f_on_stretch : Addr} {od_on_stretch an_on_stretch : Option Addr} {sl_on_stretch : Array (Option Value)} {oc_on_stretch kV_on_stretch dc_on_stretch pm_on_stretch cd_on_stretch ct_on_stretch : Value}
    {f_ends_on_two_sides : Addr} {od_ends_on_two_sides an_ends_on_two_sides : Option Addr} {sl_ends_on_two_sides : Array (Option Value)} {oc_ends_on_two_sides kV_ends_on_two_sides dc_ends_on_two_sides pm_ends_on_two_sides cd_ends_on_two_sides ct_ends_on_two_sides : Value}
    {f_stretches_meet : Addr} {od_stretches_meet an_stretches_meet : Option Addr} {sl_stretches_meet : Array (Option Value)} {oc_stretches_meet kV_stretches_meet dc_stretches_meet pm_stretches_meet cd_stretches_meet ct_stretches_meet : Value}
    {f_runs_back : Addr} {od_runs_back an_runs_back : Option Addr} {sl_runs_back : Array (Option Value)} {oc_runs_back kV_runs_back dc_runs_back pm_runs_back cd_runs_back ct_runs_back : Value}
    {f_stretches_of : Addr} {od_stretches_of an_stretches_of : Option Addr} {sl_stretches_of : Array (Option Value)} {oc_stretches_of kV_stretches_of dc_stretches_of pm_stretches_of cd_stretches_of ct_stretches_of : Value}
    {f_stretches_clash : Addr} {od_stretches_clash an_stretches_clash : Option Addr} {sl_stretches_clash : Array (Option Value)} {oc_stretches_clash kV_stretches_clash dc_stretches_clash pm_stretches_clash cd_stretches_clash ct_stretches_clash : Value}
    {f_is_sound : Addr} {od_is_sound an_is_sound : Option Addr} {sl_is_sound : Array (Option Value)} {oc_is_sound kV_is_sound dc_is_sound pm_is_sound cd_is_sound ct_is_sound : Value}
    {f_lines_meet : Addr} {od_lines_meet an_lines_meet : Option Addr} {sl_lines_meet : Array (Option Value)} {oc_lines_meet kV_lines_meet dc_lines_meet pm_lines_meet cd_lines_meet ct_lines_meet : Value}
    {f_is_on : Addr} {od_is_on an_is_on : Option Addr} {sl_is_on : Array (Option Value)} {oc_is_on kV_is_on dc_is_on pm_is_on cd_is_on ct_is_on : Value}
    {f_doubled_area : Addr} {od_doubled_area an_doubled_area : Option Addr} {sl_doubled_area : Array (Option Value)} {oc_doubled_area kV_doubled_area dc_doubled_area pm_doubled_area cd_doubled_area ct_doubled_area : Value}
    {f_turns_round : Addr} {od_turns_round an_turns_round : Option Addr} {sl_turns_round : Array (Option Value)} {oc_turns_round kV_turns_round dc_turns_round pm_turns_round cd_turns_round ct_turns_round : Value}
    {f_is_granted : Addr} {od_is_granted an_is_granted : Option Addr} {sl_is_granted : Array (Option Value)} {oc_is_granted kV_is_granted dc_is_granted pm_is_granted cd_is_granted ct_is_granted : Value}
    {f_places_from : Addr} {od_places_from an_places_from : Option Addr} {sl_places_from : Array (Option Value)} {oc_places_from kV_places_from dc_places_from pm_places_from cd_places_from ct_places_from : Value}
    {f_free_positions : Addr} {od_free_positions an_free_positions : Option Addr} {sl_free_positions : Array (Option Value)} {oc_free_positions kV_free_positions dc_free_positions pm_free_positions cd_free_positions ct_free_positions : Value}
    {f_corners_at : Addr} {od_corners_at an_corners_at : Option Addr} {sl_corners_at : Array (Option Value)} {oc_corners_at kV_corners_at dc_corners_at pm_corners_at cd_corners_at ct_corners_at : Value}
    {f_candidates : Addr} {od_candidates an_candidates : Option Addr} {sl_candidates : Array (Option Value)} {oc_candidates kV_candidates dc_candidates pm_candidates cd_candidates ct_candidates : Value}
    {f_places_left : Addr} {od_places_left an_places_left : Option Addr} {sl_places_left : Array (Option Value)} {oc_places_left kV_places_left dc_places_left pm_places_left cd_places_left ct_places_left : Value}
    {f_is_clear : Addr} {od_is_clear an_is_clear : Option Addr} {sl_is_clear : Array (Option Value)} {oc_is_clear kV_is_clear dc_is_clear pm_is_clear cd_is_clear ct_is_clear : Value}
    {f_next_to_go : Addr} {od_next_to_go an_next_to_go : Option Addr} {sl_next_to_go : Array (Option Value)} {oc_next_to_go kV_next_to_go dc_next_to_go pm_next_to_go cd_next_to_go ct_next_to_go : Value}
    {f_goings_of : Addr} {od_goings_of an_goings_of : Option Addr} {sl_goings_of : Array (Option Value)} {oc_goings_of kV_goings_of dc_goings_of pm_goings_of cd_goings_of ct_goings_of : Value}
    {f_worths_of : Addr} {od_worths_of an_worths_of : Option Addr} {sl_worths_of : Array (Option Value)} {oc_worths_of kV_worths_of dc_worths_of pm_worths_of cd_worths_of ct_worths_of : Value}
    {f_shown_of : Addr} {od_shown_of an_shown_of : Option Addr} {sl_shown_of : Array (Option Value)} {oc_shown_of kV_shown_of dc_shown_of pm_shown_of cd_shown_of ct_shown_of : Value}
    {f_line_shown : Addr} {od_line_shown an_line_shown : Option Addr} {sl_line_shown : Array (Option Value)} {oc_line_shown kV_line_shown dc_line_shown pm_line_shown cd_line_shown ct_line_shown : Value}
    {f_answer_one : Addr} {od_answer_one an_answer_one : Option Addr} {sl_answer_one : Array (Option Value)} {oc_answer_one kV_answer_one dc_answer_one pm_answer_one cd_answer_one ct_answer_one : Value}
    {f_length_at : Addr} {od_length_at an_length_at : Option Addr} {sl_length_at : Array (Option Value)} {oc_length_at kV_length_at dc_length_at pm_length_at cd_length_at ct_length_at : Value}
    {f_answers : Addr} {od_answers an_answers : Option Addr} {sl_answers : Array (Option Value)} {oc_answers kV_answers dc_answers pm_answers cd_answers ct_answers : Value}
    {t_LINE : Tok}
    {t_DROP : Tok}
    {t_ORDER : Tok}
    {t_WORTH : Tok}
    {t_SHOWN : Tok}
    {t_COUNTS : Tok}
    {t_FEW : Tok}
    {t_AREA : Tok}
    {d_NUMBERS : Addr} {es_NUMBERS : Array DictEntry} {n_NUMBERS : Nat}
    {t_NOT_GRANTED : Tok}
    {t_NOT_SOUND : Tok}
    {t_NO_LINE : Tok}
    {t_NO_POINT : Tok}
    {t_NO_RING : Tok}
    {t_TOO_MANY_LINES : Tok}
    {t_LINES_MEET : Tok}
    {t_ON_THE_RING : Tok}
    {t_NEVER_SO_FEW : Tok}
    {t_MOST_LINES : Tok}
    {t_MOST_POINTS : Tok}
    {t_MOST_ACROSS : Tok}
    (g_Line : PySem.W.nsIn K mainGlobals "Line" = some (some (.ref C_Line)))
    (a_Line_init : PySem.W.findIn K (.ref C_Line) "__init__" = some (some (.ref f_Line_init)))
    (i_Line_init : PySem.W.isFn K (.ref f_Line_init) = true)
    (l_Line_init : K.lookup f_Line_init = some ⟨oc_Line_init, od_Line_init, .func (PySem.W.fnOf "__init__" "Line.__init__" (defArgs (inClass (top 1) 0)) (defBody (inClass (top 1) 0)) (defScope (inClass (top 1) 0)) .none kV_Line_init dc_Line_init pm_Line_init an_Line_init cd_Line_init ct_Line_init), sl_Line_init⟩)
    (c_Line_init : PySem.W.codeIn K cd_Line_init "Line.__init__" = true)
    (k_Line_init : PySem.W.keepIn K (.ref f_Line_init) = true)
    (pg_Line : PySem.W.plainGet K C_Line Str.empty = true)
    (hd_Line : PySem.W.hasDictIn K C_Line = true)
    (po_Line : PySem.W.plainOver K C_Line = true)
    (sa_Line : PySem.W.findIn K (.ref C_Line) "__setattr__" = some (some (.builtin "object.__setattr__")))
    (mk_Line : PySem.W.makesIn K C_Line = true)
    (kc_Line : PySem.W.keepIn K (.ref C_Line) = true)
    (n_Line_ring : PySem.W.findIn K (.ref C_Line) "ring" = some none)
    (n_Line_points : PySem.W.findIn K (.ref C_Line) "points" = some none)
    (g_Map : PySem.W.nsIn K mainGlobals "Map" = some (some (.ref C_Map)))
    (a_Map_init : PySem.W.findIn K (.ref C_Map) "__init__" = some (some (.ref f_Map_init)))
    (i_Map_init : PySem.W.isFn K (.ref f_Map_init) = true)
    (l_Map_init : K.lookup f_Map_init = some ⟨oc_Map_init, od_Map_init, .func (PySem.W.fnOf "__init__" "Map.__init__" (defArgs (inClass (top 50) 0)) (defBody (inClass (top 50) 0)) (defScope (inClass (top 50) 0)) .none kV_Map_init dc_Map_init pm_Map_init an_Map_init cd_Map_init ct_Map_init), sl_Map_init⟩)
    (c_Map_init : PySem.W.codeIn K cd_Map_init "Map.__init__" = true)
    (k_Map_init : PySem.W.keepIn K (.ref f_Map_init) = true)
    (a_Map_line : PySem.W.findIn K (.ref C_Map) "line" = some (some (.ref f_Map_line)))
    (i_Map_line : PySem.W.isFn K (.ref f_Map_line) = true)
    (l_Map_line : K.lookup f_Map_line = some ⟨oc_Map_line, od_Map_line, .func (PySem.W.fnOf "line" "Map.line" (defArgs (inClass (top 50) 1)) (defBody (inClass (top 50) 1)) (defScope (inClass (top 50) 1)) .none kV_Map_line dc_Map_line pm_Map_line an_Map_line cd_Map_line ct_Map_line), sl_Map_line⟩)
    (c_Map_line : PySem.W.codeIn K cd_Map_line "Map.line" = true)
    (k_Map_line : PySem.W.keepIn K (.ref f_Map_line) = true)
    (a_Map_drop : PySem.W.findIn K (.ref C_Map) "drop" = some (some (.ref f_Map_drop)))
    (i_Map_drop : PySem.W.isFn K (.ref f_Map_drop) = true)
    (l_Map_drop : K.lookup f_Map_drop = some ⟨oc_Map_drop, od_Map_drop, .func (PySem.W.fnOf "drop" "Map.drop" (defArgs (inClass (top 50) 2)) (defBody (inClass (top 50) 2)) (defScope (inClass (top 50) 2)) .none kV_Map_drop dc_Map_drop pm_Map_drop an_Map_drop cd_Map_drop ct_Map_drop), sl_Map_drop⟩)
    (c_Map_drop : PySem.W.codeIn K cd_Map_drop "Map.drop" = true)
    (k_Map_drop : PySem.W.keepIn K (.ref f_Map_drop) = true)
    (a_Map_order : PySem.W.findIn K (.ref C_Map) "order" = some (some (.ref f_Map_order)))
    (i_Map_order : PySem.W.isFn K (.ref f_Map_order) = true)
    (l_Map_order : K.lookup f_Map_order = some ⟨oc_Map_order, od_Map_order, .func (PySem.W.fnOf "order" "Map.order" (defArgs (inClass (top 50) 3)) (defBody (inClass (top 50) 3)) (defScope (inClass (top 50) 3)) .none kV_Map_order dc_Map_order pm_Map_order an_Map_order cd_Map_order ct_Map_order), sl_Map_order⟩)
    (c_Map_order : PySem.W.codeIn K cd_Map_order "Map.order" = true)
    (k_Map_order : PySem.W.keepIn K (.ref f_Map_order) = true)
    (a_Map_worth : PySem.W.findIn K (.ref C_Map) "worth" = some (some (.ref f_Map_worth)))
    (i_Map_worth : PySem.W.isFn K (.ref f_Map_worth) = true)
    (l_Map_worth : K.lookup f_Map_worth = some ⟨oc_Map_worth, od_Map_worth, .func (PySem.W.fnOf "worth" "Map.worth" (defArgs (inClass (top 50) 4)) (defBody (inClass (top 50) 4)) (defScope (inClass (top 50) 4)) .none kV_Map_worth dc_Map_worth pm_Map_worth an_Map_worth cd_Map_worth ct_Map_worth), sl_Map_worth⟩)
    (c_Map_worth : PySem.W.codeIn K cd_Map_worth "Map.worth" = true)
    (k_Map_worth : PySem.W.keepIn K (.ref f_Map_worth) = true)
    (a_Map_shown : PySem.W.findIn K (.ref C_Map) "shown" = some (some (.ref f_Map_shown)))
    (i_Map_shown : PySem.W.isFn K (.ref f_Map_shown) = true)
    (l_Map_shown : K.lookup f_Map_shown = some ⟨oc_Map_shown, od_Map_shown, .func (PySem.W.fnOf "shown" "Map.shown" (defArgs (inClass (top 50) 5)) (defBody (inClass (top 50) 5)) (defScope (inClass (top 50) 5)) .none kV_Map_shown dc_Map_shown pm_Map_shown an_Map_shown cd_Map_shown ct_Map_shown), sl_Map_shown⟩)
    (c_Map_shown : PySem.W.codeIn K cd_Map_shown "Map.shown" = true)
    (k_Map_shown : PySem.W.keepIn K (.ref f_Map_shown) = true)
    (a_Map_counts : PySem.W.findIn K (.ref C_Map) "counts" = some (some (.ref f_Map_counts)))
    (i_Map_counts : PySem.W.isFn K (.ref f_Map_counts) = true)
    (l_Map_counts : K.lookup f_Map_counts = some ⟨oc_Map_counts, od_Map_counts, .func (PySem.W.fnOf "counts" "Map.counts" (defArgs (inClass (top 50) 6)) (defBody (inClass (top 50) 6)) (defScope (inClass (top 50) 6)) .none kV_Map_counts dc_Map_counts pm_Map_counts an_Map_counts cd_Map_counts ct_Map_counts), sl_Map_counts⟩)
    (c_Map_counts : PySem.W.codeIn K cd_Map_counts "Map.counts" = true)
    (k_Map_counts : PySem.W.keepIn K (.ref f_Map_counts) = true)
    (a_Map_few : PySem.W.findIn K (.ref C_Map) "few" = some (some (.ref f_Map_few)))
    (i_Map_few : PySem.W.isFn K (.ref f_Map_few) = true)
    (l_Map_few : K.lookup f_Map_few = some ⟨oc_Map_few, od_Map_few, .func (PySem.W.fnOf "few" "Map.few" (defArgs (inClass (top 50) 7)) (defBody (inClass (top 50) 7)) (defScope (inClass (top 50) 7)) .none kV_Map_few dc_Map_few pm_Map_few an_Map_few cd_Map_few ct_Map_few), sl_Map_few⟩)
    (c_Map_few : PySem.W.codeIn K cd_Map_few "Map.few" = true)
    (k_Map_few : PySem.W.keepIn K (.ref f_Map_few) = true)
    (a_Map_area : PySem.W.findIn K (.ref C_Map) "area" = some (some (.ref f_Map_area)))
    (i_Map_area : PySem.W.isFn K (.ref f_Map_area) = true)
    (l_Map_area : K.lookup f_Map_area = some ⟨oc_Map_area, od_Map_area, .func (PySem.W.fnOf "area" "Map.area" (defArgs (inClass (top 50) 8)) (defBody (inClass (top 50) 8)) (defScope (inClass (top 50) 8)) .none kV_Map_area dc_Map_area pm_Map_area an_Map_area cd_Map_area ct_Map_area), sl_Map_area⟩)
    (c_Map_area : PySem.W.codeIn K cd_Map_area "Map.area" = true)
    (k_Map_area : PySem.W.keepIn K (.ref f_Map_area) = true)
    (a_Map_turns : PySem.W.findIn K (.ref C_Map) "turns" = some (some (.ref f_Map_turns)))
    (i_Map_turns : PySem.W.isFn K (.ref f_Map_turns) = true)
    (l_Map_turns : K.lookup f_Map_turns = some ⟨oc_Map_turns, od_Map_turns, .func (PySem.W.fnOf "turns" "Map.turns" (defArgs (inClass (top 50) 9)) (defBody (inClass (top 50) 9)) (defScope (inClass (top 50) 9)) .none kV_Map_turns dc_Map_turns pm_Map_turns an_Map_turns cd_Map_turns ct_Map_turns), sl_Map_turns⟩)
    (c_Map_turns : PySem.W.codeIn K cd_Map_turns "Map.turns" = true)
    (k_Map_turns : PySem.W.keepIn K (.ref f_Map_turns) = true)
    (pg_Map : PySem.W.plainGet K C_Map Str.empty = true)
    (hd_Map : PySem.W.hasDictIn K C_Map = true)
    (po_Map : PySem.W.plainOver K C_Map = true)
    (sa_Map : PySem.W.findIn K (.ref C_Map) "__setattr__" = some (some (.builtin "object.__setattr__")))
    (mk_Map : PySem.W.makesIn K C_Map = true)
    (kc_Map : PySem.W.keepIn K (.ref C_Map) = true)
    (n_Map_lines : PySem.W.findIn K (.ref C_Map) "lines" = some none)
    (a_bend : PySem.W.nsIn K mainGlobals "bend" = some (some (.ref f_bend)))
    (l_bend : K.lookup f_bend = some ⟨oc_bend, od_bend, .func (PySem.W.fnOf "bend" "bend" (defArgs (top 2)) (defBody (top 2)) (defScope (top 2)) .none kV_bend dc_bend pm_bend an_bend cd_bend ct_bend), sl_bend⟩)
    (c_bend : PySem.W.codeIn K cd_bend "bend" = true)
    (k_bend : PySem.W.keepIn K (.ref f_bend) = true)
    (a_in_box : PySem.W.nsIn K mainGlobals "in_box" = some (some (.ref f_in_box)))
    (l_in_box : K.lookup f_in_box = some ⟨oc_in_box, od_in_box, .func (PySem.W.fnOf "in_box" "in_box" (defArgs (top 3)) (defBody (top 3)) (defScope (top 3)) .none kV_in_box dc_in_box pm_in_box an_in_box cd_in_box ct_in_box), sl_in_box⟩)
    (c_in_box : PySem.W.codeIn K cd_in_box "in_box" = true)
    (k_in_box : PySem.W.keepIn K (.ref f_in_box) = true)
    (a_in_triangle : PySem.W.nsIn K mainGlobals "in_triangle" = some (some (.ref f_in_triangle)))
    (l_in_triangle : K.lookup f_in_triangle = some ⟨oc_in_triangle, od_in_triangle, .func (PySem.W.fnOf "in_triangle" "in_triangle" (defArgs (top 4)) (defBody (top 4)) (defScope (top 4)) .none kV_in_triangle dc_in_triangle pm_in_triangle an_in_triangle cd_in_triangle ct_in_triangle), sl_in_triangle⟩)
    (c_in_triangle : PySem.W.codeIn K cd_in_triangle "in_triangle" = true)
    (k_in_triangle : PySem.W.keepIn K (.ref f_in_triangle) = true)
    (a_on_stretch : PySem.W.nsIn K mainGlobals "on_stretch" = some (some (.ref f_on_stretch)))
    (l_on_stretch : K.lookup f_on_stretch = some ⟨oc_on_stretch, od_on_stretch, .func (PySem.W.fnOf "on_stretch" "on_stretch" (defArgs (top 5)) (defBody (top 5)) (defScope (top 5)) .none kV_on_stretch dc_on_stretch pm_on_stretch an_on_stretch cd_on_stretch ct_on_stretch), sl_on_stretch⟩)
    (c_on_stretch : PySem.W.codeIn K cd_on_stretch "on_stretch" = true)
    (k_on_stretch : PySem.W.keepIn K (.ref f_on_stretch) = true)
    (a_ends_on_two_sides : PySem.W.nsIn K mainGlobals "ends_on_two_sides" = some (some (.ref f_ends_on_two_sides)))
    (l_ends_on_two_sides : K.lookup f_ends_on_two_sides = some ⟨oc_ends_on_two_sides, od_ends_on_two_sides, .func (PySem.W.fnOf "ends_on_two_sides" "ends_on_two_sides" (defArgs (top 6)) (defBody (top 6)) (defScope (top 6)) .none kV_ends_on_two_sides dc_ends_on_two_sides pm_ends_on_two_sides an_ends_on_two_sides cd_ends_on_two_sides ct_ends_on_two_sides), sl_ends_on_two_sides⟩)
    (c_ends_on_two_sides : PySem.W.codeIn K cd_ends_on_two_sides "ends_on_two_sides" = true)
    (k_ends_on_two_sides : PySem.W.keepIn K (.ref f_ends_on_two_sides) = true)
    (a_stretches_meet : PySem.W.nsIn K mainGlobals "stretches_meet" = some (some (.ref f_stretches_meet)))
    (l_stretches_meet : K.lookup f_stretches_meet = some ⟨oc_stretches_meet, od_stretches_meet, .func (PySem.W.fnOf "stretches_meet" "stretches_meet" (defArgs (top 7)) (defBody (top 7)) (defScope (top 7)) .none kV_stretches_meet dc_stretches_meet pm_stretches_meet an_stretches_meet cd_stretches_meet ct_stretches_meet), sl_stretches_meet⟩)
    (c_stretches_meet : PySem.W.codeIn K cd_stretches_meet "stretches_meet" = true)
    (k_stretches_meet : PySem.W.keepIn K (.ref f_stretches_meet) = true)
    (a_runs_back : PySem.W.nsIn K mainGlobals "runs_back" = some (some (.ref f_runs_back)))
    (l_runs_back : K.lookup f_runs_back = some ⟨oc_runs_back, od_runs_back, .func (PySem.W.fnOf "runs_back" "runs_back" (defArgs (top 8)) (defBody (top 8)) (defScope (top 8)) .none kV_runs_back dc_runs_back pm_runs_back an_runs_back cd_runs_back ct_runs_back), sl_runs_back⟩)
    (c_runs_back : PySem.W.codeIn K cd_runs_back "runs_back" = true)
    (k_runs_back : PySem.W.keepIn K (.ref f_runs_back) = true)
    (a_stretches_of : PySem.W.nsIn K mainGlobals "stretches_of" = some (some (.ref f_stretches_of)))
    (l_stretches_of : K.lookup f_stretches_of = some ⟨oc_stretches_of, od_stretches_of, .func (PySem.W.fnOf "stretches_of" "stretches_of" (defArgs (top 9)) (defBody (top 9)) (defScope (top 9)) .none kV_stretches_of dc_stretches_of pm_stretches_of an_stretches_of cd_stretches_of ct_stretches_of), sl_stretches_of⟩)
    (c_stretches_of : PySem.W.codeIn K cd_stretches_of "stretches_of" = true)
    (k_stretches_of : PySem.W.keepIn K (.ref f_stretches_of) = true)
    (a_stretches_clash : PySem.W.nsIn K mainGlobals "stretches_clash" = some (some (.ref f_stretches_clash)))
    (l_stretches_clash : K.lookup f_stretches_clash = some ⟨oc_stretches_clash, od_stretches_clash, .func (PySem.W.fnOf "stretches_clash" "stretches_clash" (defArgs (top 10)) (defBody (top 10)) (defScope (top 10)) .none kV_stretches_clash dc_stretches_clash pm_stretches_clash an_stretches_clash cd_stretches_clash ct_stretches_clash), sl_stretches_clash⟩)
    (c_stretches_clash : PySem.W.codeIn K cd_stretches_clash "stretches_clash" = true)
    (k_stretches_clash : PySem.W.keepIn K (.ref f_stretches_clash) = true)
    (a_is_sound : PySem.W.nsIn K mainGlobals "is_sound" = some (some (.ref f_is_sound)))
    (l_is_sound : K.lookup f_is_sound = some ⟨oc_is_sound, od_is_sound, .func (PySem.W.fnOf "is_sound" "is_sound" (defArgs (top 11)) (defBody (top 11)) (defScope (top 11)) .none kV_is_sound dc_is_sound pm_is_sound an_is_sound cd_is_sound ct_is_sound), sl_is_sound⟩)
    (c_is_sound : PySem.W.codeIn K cd_is_sound "is_sound" = true)
    (k_is_sound : PySem.W.keepIn K (.ref f_is_sound) = true)
    (a_lines_meet : PySem.W.nsIn K mainGlobals "lines_meet" = some (some (.ref f_lines_meet)))
    (l_lines_meet : K.lookup f_lines_meet = some ⟨oc_lines_meet, od_lines_meet, .func (PySem.W.fnOf "lines_meet" "lines_meet" (defArgs (top 12)) (defBody (top 12)) (defScope (top 12)) .none kV_lines_meet dc_lines_meet pm_lines_meet an_lines_meet cd_lines_meet ct_lines_meet), sl_lines_meet⟩)
    (c_lines_meet : PySem.W.codeIn K cd_lines_meet "lines_meet" = true)
    (k_lines_meet : PySem.W.keepIn K (.ref f_lines_meet) = true)
    (a_is_on : PySem.W.nsIn K mainGlobals "is_on" = some (some (.ref f_is_on)))
    (l_is_on : K.lookup f_is_on = some ⟨oc_is_on, od_is_on, .func (PySem.W.fnOf "is_on" "is_on" (defArgs (top 13)) (defBody (top 13)) (defScope (top 13)) .none kV_is_on dc_is_on pm_is_on an_is_on cd_is_on ct_is_on), sl_is_on⟩)
    (c_is_on : PySem.W.codeIn K cd_is_on "is_on" = true)
    (k_is_on : PySem.W.keepIn K (.ref f_is_on) = true)
    (a_doubled_area : PySem.W.nsIn K mainGlobals "doubled_area" = some (some (.ref f_doubled_area)))
    (l_doubled_area : K.lookup f_doubled_area = some ⟨oc_doubled_area, od_doubled_area, .func (PySem.W.fnOf "doubled_area" "doubled_area" (defArgs (top 14)) (defBody (top 14)) (defScope (top 14)) .none kV_doubled_area dc_doubled_area pm_doubled_area an_doubled_area cd_doubled_area ct_doubled_area), sl_doubled_area⟩)
    (c_doubled_area : PySem.W.codeIn K cd_doubled_area "doubled_area" = true)
    (k_doubled_area : PySem.W.keepIn K (.ref f_doubled_area) = true)
    (a_turns_round : PySem.W.nsIn K mainGlobals "turns_round" = some (some (.ref f_turns_round)))
    (l_turns_round : K.lookup f_turns_round = some ⟨oc_turns_round, od_turns_round, .func (PySem.W.fnOf "turns_round" "turns_round" (defArgs (top 15)) (defBody (top 15)) (defScope (top 15)) .none kV_turns_round dc_turns_round pm_turns_round an_turns_round cd_turns_round ct_turns_round), sl_turns_round⟩)
    (c_turns_round : PySem.W.codeIn K cd_turns_round "turns_round" = true)
    (k_turns_round : PySem.W.keepIn K (.ref f_turns_round) = true)
    (a_is_granted : PySem.W.nsIn K mainGlobals "is_granted" = some (some (.ref f_is_granted)))
    (l_is_granted : K.lookup f_is_granted = some ⟨oc_is_granted, od_is_granted, .func (PySem.W.fnOf "is_granted" "is_granted" (defArgs (top 38)) (defBody (top 38)) (defScope (top 38)) .none kV_is_granted dc_is_granted pm_is_granted an_is_granted cd_is_granted ct_is_granted), sl_is_granted⟩)
    (c_is_granted : PySem.W.codeIn K cd_is_granted "is_granted" = true)
    (k_is_granted : PySem.W.keepIn K (.ref f_is_granted) = true)
    (a_places_from : PySem.W.nsIn K mainGlobals "places_from" = some (some (.ref f_places_from)))
    (l_places_from : K.lookup f_places_from = some ⟨oc_places_from, od_places_from, .func (PySem.W.fnOf "places_from" "places_from" (defArgs (top 39)) (defBody (top 39)) (defScope (top 39)) .none kV_places_from dc_places_from pm_places_from an_places_from cd_places_from ct_places_from), sl_places_from⟩)
    (c_places_from : PySem.W.codeIn K cd_places_from "places_from" = true)
    (k_places_from : PySem.W.keepIn K (.ref f_places_from) = true)
    (a_free_positions : PySem.W.nsIn K mainGlobals "free_positions" = some (some (.ref f_free_positions)))
    (l_free_positions : K.lookup f_free_positions = some ⟨oc_free_positions, od_free_positions, .func (PySem.W.fnOf "free_positions" "free_positions" (defArgs (top 40)) (defBody (top 40)) (defScope (top 40)) .none kV_free_positions dc_free_positions pm_free_positions an_free_positions cd_free_positions ct_free_positions), sl_free_positions⟩)
    (c_free_positions : PySem.W.codeIn K cd_free_positions "free_positions" = true)
    (k_free_positions : PySem.W.keepIn K (.ref f_free_positions) = true)
    (a_corners_at : PySem.W.nsIn K mainGlobals "corners_at" = some (some (.ref f_corners_at)))
    (l_corners_at : K.lookup f_corners_at = some ⟨oc_corners_at, od_corners_at, .func (PySem.W.fnOf "corners_at" "corners_at" (defArgs (top 41)) (defBody (top 41)) (defScope (top 41)) .none kV_corners_at dc_corners_at pm_corners_at an_corners_at cd_corners_at ct_corners_at), sl_corners_at⟩)
    (c_corners_at : PySem.W.codeIn K cd_corners_at "corners_at" = true)
    (k_corners_at : PySem.W.keepIn K (.ref f_corners_at) = true)
    (a_candidates : PySem.W.nsIn K mainGlobals "candidates" = some (some (.ref f_candidates)))
    (l_candidates : K.lookup f_candidates = some ⟨oc_candidates, od_candidates, .func (PySem.W.fnOf "candidates" "candidates" (defArgs (top 42)) (defBody (top 42)) (defScope (top 42)) .none kV_candidates dc_candidates pm_candidates an_candidates cd_candidates ct_candidates), sl_candidates⟩)
    (c_candidates : PySem.W.codeIn K cd_candidates "candidates" = true)
    (k_candidates : PySem.W.keepIn K (.ref f_candidates) = true)
    (a_places_left : PySem.W.nsIn K mainGlobals "places_left" = some (some (.ref f_places_left)))
    (l_places_left : K.lookup f_places_left = some ⟨oc_places_left, od_places_left, .func (PySem.W.fnOf "places_left" "places_left" (defArgs (top 43)) (defBody (top 43)) (defScope (top 43)) .none kV_places_left dc_places_left pm_places_left an_places_left cd_places_left ct_places_left), sl_places_left⟩)
    (c_places_left : PySem.W.codeIn K cd_places_left "places_left" = true)
    (k_places_left : PySem.W.keepIn K (.ref f_places_left) = true)
    (a_is_clear : PySem.W.nsIn K mainGlobals "is_clear" = some (some (.ref f_is_clear)))
    (l_is_clear : K.lookup f_is_clear = some ⟨oc_is_clear, od_is_clear, .func (PySem.W.fnOf "is_clear" "is_clear" (defArgs (top 44)) (defBody (top 44)) (defScope (top 44)) .none kV_is_clear dc_is_clear pm_is_clear an_is_clear cd_is_clear ct_is_clear), sl_is_clear⟩)
    (c_is_clear : PySem.W.codeIn K cd_is_clear "is_clear" = true)
    (k_is_clear : PySem.W.keepIn K (.ref f_is_clear) = true)
    (a_next_to_go : PySem.W.nsIn K mainGlobals "next_to_go" = some (some (.ref f_next_to_go)))
    (l_next_to_go : K.lookup f_next_to_go = some ⟨oc_next_to_go, od_next_to_go, .func (PySem.W.fnOf "next_to_go" "next_to_go" (defArgs (top 45)) (defBody (top 45)) (defScope (top 45)) .none kV_next_to_go dc_next_to_go pm_next_to_go an_next_to_go cd_next_to_go ct_next_to_go), sl_next_to_go⟩)
    (c_next_to_go : PySem.W.codeIn K cd_next_to_go "next_to_go" = true)
    (k_next_to_go : PySem.W.keepIn K (.ref f_next_to_go) = true)
    (a_goings_of : PySem.W.nsIn K mainGlobals "goings_of" = some (some (.ref f_goings_of)))
    (l_goings_of : K.lookup f_goings_of = some ⟨oc_goings_of, od_goings_of, .func (PySem.W.fnOf "goings_of" "goings_of" (defArgs (top 46)) (defBody (top 46)) (defScope (top 46)) .none kV_goings_of dc_goings_of pm_goings_of an_goings_of cd_goings_of ct_goings_of), sl_goings_of⟩)
    (c_goings_of : PySem.W.codeIn K cd_goings_of "goings_of" = true)
    (k_goings_of : PySem.W.keepIn K (.ref f_goings_of) = true)
    (a_worths_of : PySem.W.nsIn K mainGlobals "worths_of" = some (some (.ref f_worths_of)))
    (l_worths_of : K.lookup f_worths_of = some ⟨oc_worths_of, od_worths_of, .func (PySem.W.fnOf "worths_of" "worths_of" (defArgs (top 47)) (defBody (top 47)) (defScope (top 47)) .none kV_worths_of dc_worths_of pm_worths_of an_worths_of cd_worths_of ct_worths_of), sl_worths_of⟩)
    (c_worths_of : PySem.W.codeIn K cd_worths_of "worths_of" = true)
    (k_worths_of : PySem.W.keepIn K (.ref f_worths_of) = true)
    (a_shown_of : PySem.W.nsIn K mainGlobals "shown_of" = some (some (.ref f_shown_of)))
    (l_shown_of : K.lookup f_shown_of = some ⟨oc_shown_of, od_shown_of, .func (PySem.W.fnOf "shown_of" "shown_of" (defArgs (top 48)) (defBody (top 48)) (defScope (top 48)) .none kV_shown_of dc_shown_of pm_shown_of an_shown_of cd_shown_of ct_shown_of), sl_shown_of⟩)
    (c_shown_of : PySem.W.codeIn K cd_shown_of "shown_of" = true)
    (k_shown_of : PySem.W.keepIn K (.ref f_shown_of) = true)
    (a_line_shown : PySem.W.nsIn K mainGlobals "line_shown" = some (some (.ref f_line_shown)))
    (l_line_shown : K.lookup f_line_shown = some ⟨oc_line_shown, od_line_shown, .func (PySem.W.fnOf "line_shown" "line_shown" (defArgs (top 49)) (defBody (top 49)) (defScope (top 49)) .none kV_line_shown dc_line_shown pm_line_shown an_line_shown cd_line_shown ct_line_shown), sl_line_shown⟩)
    (c_line_shown : PySem.W.codeIn K cd_line_shown "line_shown" = true)
    (k_line_shown : PySem.W.keepIn K (.ref f_line_shown) = true)
    (a_answer_one : PySem.W.nsIn K mainGlobals "answer_one" = some (some (.ref f_answer_one)))
    (l_answer_one : K.lookup f_answer_one = some ⟨oc_answer_one, od_answer_one, .func (PySem.W.fnOf "answer_one" "answer_one" (defArgs (top 51)) (defBody (top 51)) (defScope (top 51)) .none kV_answer_one dc_answer_one pm_answer_one an_answer_one cd_answer_one ct_answer_one), sl_answer_one⟩)
    (c_answer_one : PySem.W.codeIn K cd_answer_one "answer_one" = true)
    (k_answer_one : PySem.W.keepIn K (.ref f_answer_one) = true)
    (a_length_at : PySem.W.nsIn K mainGlobals "length_at" = some (some (.ref f_length_at)))
    (l_length_at : K.lookup f_length_at = some ⟨oc_length_at, od_length_at, .func (PySem.W.fnOf "length_at" "length_at" (defArgs (top 52)) (defBody (top 52)) (defScope (top 52)) .none kV_length_at dc_length_at pm_length_at an_length_at cd_length_at ct_length_at), sl_length_at⟩)
    (c_length_at : PySem.W.codeIn K cd_length_at "length_at" = true)
    (k_length_at : PySem.W.keepIn K (.ref f_length_at) = true)
    (a_answers : PySem.W.nsIn K mainGlobals "answers" = some (some (.ref f_answers)))
    (l_answers : K.lookup f_answers = some ⟨oc_answers, od_answers, .func (PySem.W.fnOf "answers" "answers" (defArgs (top 53)) (defBody (top 53)) (defScope (top 53)) .none kV_answers dc_answers pm_answers an_answers cd_answers ct_answers), sl_answers⟩)
    (c_answers : PySem.W.codeIn K cd_answers "answers" = true)
    (k_answers : PySem.W.keepIn K (.ref f_answers) = true)
    (z_abs : PySem.W.nsIn K mainGlobals "abs" = some none)
    (z_any : PySem.W.nsIn K mainGlobals "any" = some none)
    (z_enumerate : PySem.W.nsIn K mainGlobals "enumerate" = some none)
    (z_len : PySem.W.nsIn K mainGlobals "len" = some none)
    (z_list : PySem.W.nsIn K mainGlobals "list" = some none)
    (z_max : PySem.W.nsIn K mainGlobals "max" = some none)
    (z_min : PySem.W.nsIn K mainGlobals "min" = some none)
    (z_range : PySem.W.nsIn K mainGlobals "range" = some none)
    (z_set : PySem.W.nsIn K mainGlobals "set" = some none)
    (z_sorted : PySem.W.nsIn K mainGlobals "sorted" = some none)
    (z_sum : PySem.W.nsIn K mainGlobals "sum" = some none)
    (z_zip : PySem.W.nsIn K mainGlobals "zip" = some none)
    (v_LINE : PySem.W.nsIn K mainGlobals "LINE" = some (some (.int (0) t_LINE)))
    (v_DROP : PySem.W.nsIn K mainGlobals "DROP" = some (some (.int (1) t_DROP)))
    (v_ORDER : PySem.W.nsIn K mainGlobals "ORDER" = some (some (.int (2) t_ORDER)))
    (v_WORTH : PySem.W.nsIn K mainGlobals "WORTH" = some (some (.int (3) t_WORTH)))
    (v_SHOWN : PySem.W.nsIn K mainGlobals "SHOWN" = some (some (.int (4) t_SHOWN)))
    (v_COUNTS : PySem.W.nsIn K mainGlobals "COUNTS" = some (some (.int (5) t_COUNTS)))
    (v_FEW : PySem.W.nsIn K mainGlobals "FEW" = some (some (.int (6) t_FEW)))
    (v_AREA : PySem.W.nsIn K mainGlobals "AREA" = some (some (.int (7) t_AREA)))
    (v_NUMBERS : PySem.W.nsIn K mainGlobals "NUMBERS" = some (some (.ref d_NUMBERS)))
    (l_NUMBERS : K.lookup d_NUMBERS = some ⟨.type "dict", none, .dict es_NUMBERS n_NUMBERS, #[]⟩)
    (t_NUMBERS : KTD.numsLook es_NUMBERS.toList tabD = true)
    (v_NOT_GRANTED : PySem.W.nsIn K mainGlobals "NOT_GRANTED" = some (some (.int (-1) t_NOT_GRANTED)))
    (v_NOT_SOUND : PySem.W.nsIn K mainGlobals "NOT_SOUND" = some (some (.int (-2) t_NOT_SOUND)))
    (v_NO_LINE : PySem.W.nsIn K mainGlobals "NO_LINE" = some (some (.int (-3) t_NO_LINE)))
    (v_NO_POINT : PySem.W.nsIn K mainGlobals "NO_POINT" = some (some (.int (-4) t_NO_POINT)))
    (v_NO_RING : PySem.W.nsIn K mainGlobals "NO_RING" = some (some (.int (-4) t_NO_RING)))
    (v_TOO_MANY_LINES : PySem.W.nsIn K mainGlobals "TOO_MANY_LINES" = some (some (.int (-5) t_TOO_MANY_LINES)))
    (v_LINES_MEET : PySem.W.nsIn K mainGlobals "LINES_MEET" = some (some (.int (-6) t_LINES_MEET)))
    (v_ON_THE_RING : PySem.W.nsIn K mainGlobals "ON_THE_RING" = some (some (.int (-6) t_ON_THE_RING)))
    (v_NEVER_SO_FEW : PySem.W.nsIn K mainGlobals "NEVER_SO_FEW" = some (some (.int (-7) t_NEVER_SO_FEW)))
    (v_MOST_LINES : PySem.W.nsIn K mainGlobals "MOST_LINES" = some (some (.int (4) t_MOST_LINES)))
    (v_MOST_POINTS : PySem.W.nsIn K mainGlobals "MOST_POINTS" = some (some (.int (12) t_MOST_POINTS)))
    (v_MOST_ACROSS : PySem.W.nsIn K mainGlobals "MOST_ACROSS" = some (some (.int (1000) t_MOST_ACROSS))) :
    ∃ fd : FuncData, (∀ (s : Shared) (us : List Value), us.length = (["calls"] : List Str).length → BindsTo s fd ⟨us, []⟩ ((["calls"] : List Str).zip us)) ∧ ∀ base : Heap, K.In base → base.Ns mainGlobals mg → FnOk P w K mg base CX0 11 fa fd ["calls"] (spAns K) := by
  have e := hfa.symm.trans (PySem.W.mg_of X G a_answers)
  cases e
  have B : Bi mg := ⟨PySem.W.mg_none_of X G z_min, PySem.W.mg_none_of X G z_max, PySem.W.mg_none_of X G z_len, PySem.W.mg_none_of X G z_range, PySem.W.mg_none_of X G z_set, PySem.W.mg_none_of X G z_list, PySem.W.mg_none_of X G z_sorted, PySem.W.mg_none_of X G z_enumerate, PySem.W.mg_none_of X G z_any, PySem.W.mg_none_of X G z_abs, PySem.W.mg_none_of X G z_sum, PySem.W.mg_none_of X G z_zip⟩
  have N : Cn mg := ⟨⟨_, PySem.W.mg_of X G v_MOST_POINTS⟩, ⟨_, PySem.W.mg_of X G v_MOST_ACROSS⟩, ⟨_, PySem.W.mg_of X G v_MOST_LINES⟩, ⟨_, PySem.W.mg_of X G v_NOT_GRANTED⟩, ⟨_, PySem.W.mg_of X G v_NOT_SOUND⟩, ⟨_, PySem.W.mg_of X G v_NO_LINE⟩, ⟨_, PySem.W.mg_of X G v_NO_POINT⟩, ⟨_, PySem.W.mg_of X G v_TOO_MANY_LINES⟩, ⟨_, PySem.W.mg_of X G v_LINES_MEET⟩⟩
  have N2 : Cm mg := ⟨⟨_, PySem.W.mg_of X G v_NO_RING⟩, ⟨_, PySem.W.mg_of X G v_ON_THE_RING⟩, ⟨_, PySem.W.mg_of X G v_NEVER_SO_FEW⟩, ⟨_, PySem.W.mg_of X G v_LINE⟩, ⟨_, PySem.W.mg_of X G v_DROP⟩, ⟨_, PySem.W.mg_of X G v_ORDER⟩, ⟨_, PySem.W.mg_of X G v_WORTH⟩, ⟨_, PySem.W.mg_of X G v_SHOWN⟩, ⟨_, PySem.W.mg_of X G v_COUNTS⟩, ⟨_, PySem.W.mg_of X G v_FEW⟩, ⟨_, PySem.W.mg_of X G v_AREA⟩⟩
  have NM : Nm K mg := ⟨⟨_, _, _, PySem.W.mg_of X G v_NUMBERS, l_NUMBERS, t_NUMBERS⟩⟩
  have TLn : TL K mg C_Line := ⟨⟨pg_Line, hd_Line, po_Line, sa_Line⟩, n_Line_ring, n_Line_points, PySem.W.mg_of X G g_Line⟩
  have T : TM K mg C_Map := ⟨⟨pg_Map, hd_Map, po_Map, sa_Map⟩, n_Map_lines, PySem.W.mg_of X G g_Map⟩
  have MKL : Mk K C_Line f_Line_init := ⟨mk_Line, a_Line_init, i_Line_init, kc_Line⟩
  have MKM : Mk K C_Map f_Map_init := ⟨mk_Map, a_Map_init, i_Map_init, kc_Map⟩
  have F_Line_init := fun_mk (st := inClass (top 1) 0) l_Line_init c_Line_init k_Line_init
  have b_Line_init := F_Line_init.binds (ps := ["self", "ring", "points"]) fun _ _ _ _ _ _ us hl => match us, hl with | [_, _, _], _ => rfl
  have F_Map_init := fun_mk (st := inClass (top 50) 0) l_Map_init c_Map_init k_Map_init
  have b_Map_init := F_Map_init.binds (ps := ["self"]) fun _ _ _ _ _ _ us hl => match us, hl with | [_], _ => rfl
  have F_Map_line := fun_mk (st := inClass (top 50) 1) l_Map_line c_Map_line k_Map_line
  have b_Map_line := F_Map_line.binds (ps := ["self", "ring", "numbers"]) fun _ _ _ _ _ _ us hl => match us, hl with | [_, _, _], _ => rfl
  have F_Map_drop := fun_mk (st := inClass (top 50) 2) l_Map_drop c_Map_drop k_Map_drop
  have b_Map_drop := F_Map_drop.binds (ps := ["self", "k"]) fun _ _ _ _ _ _ us hl => match us, hl with | [_, _], _ => rfl
  have F_Map_order := fun_mk (st := inClass (top 50) 3) l_Map_order c_Map_order k_Map_order
  have b_Map_order := F_Map_order.binds (ps := ["self"]) fun _ _ _ _ _ _ us hl => match us, hl with | [_], _ => rfl
  have F_Map_worth := fun_mk (st := inClass (top 50) 4) l_Map_worth c_Map_worth k_Map_worth
  have b_Map_worth := F_Map_worth.binds (ps := ["self", "k", "i"]) fun _ _ _ _ _ _ us hl => match us, hl with | [_, _, _], _ => rfl
  have F_Map_shown := fun_mk (st := inClass (top 50) 5) l_Map_shown c_Map_shown k_Map_shown
  have b_Map_shown := F_Map_shown.binds (ps := ["self", "t", "k"]) fun _ _ _ _ _ _ us hl => match us, hl with | [_, _, _], _ => rfl
  have F_Map_counts := fun_mk (st := inClass (top 50) 6) l_Map_counts c_Map_counts k_Map_counts
  have b_Map_counts := F_Map_counts.binds (ps := ["self", "t"]) fun _ _ _ _ _ _ us hl => match us, hl with | [_, _], _ => rfl
  have F_Map_few := fun_mk (st := inClass (top 50) 7) l_Map_few c_Map_few k_Map_few
  have b_Map_few := F_Map_few.binds (ps := ["self", "n"]) fun _ _ _ _ _ _ us hl => match us, hl with | [_, _], _ => rfl
  have F_Map_area := fun_mk (st := inClass (top 50) 8) l_Map_area c_Map_area k_Map_area
  have b_Map_area := F_Map_area.binds (ps := ["self", "t", "k"]) fun _ _ _ _ _ _ us hl => match us, hl with | [_, _, _], _ => rfl
  have F_Map_turns := fun_mk (st := inClass (top 50) 9) l_Map_turns c_Map_turns k_Map_turns
  have b_Map_turns := F_Map_turns.binds (ps := ["self", "t", "k", "place"]) fun _ _ _ _ _ _ us hl => match us, hl with | [_, _, _, _], _ => rfl
  have F_bend := fun_mk (st := top 2) l_bend c_bend k_bend
  have b_bend := F_bend.binds (ps := ["a", "b", "c"]) fun _ _ _ _ _ _ us hl => match us, hl with | [_, _, _], _ => rfl
  have F_in_box := fun_mk (st := top 3) l_in_box c_in_box k_in_box
  have b_in_box := F_in_box.binds (ps := ["place", "corners"]) fun _ _ _ _ _ _ us hl => match us, hl with | [_, _], _ => rfl
  have F_in_triangle := fun_mk (st := top 4) l_in_triangle c_in_triangle k_in_triangle
  have b_in_triangle := F_in_triangle.binds (ps := ["place", "corners"]) fun _ _ _ _ _ _ us hl => match us, hl with | [_, _], _ => rfl
  have F_on_stretch := fun_mk (st := top 5) l_on_stretch c_on_stretch k_on_stretch
  have b_on_stretch := F_on_stretch.binds (ps := ["place", "stretch"]) fun _ _ _ _ _ _ us hl => match us, hl with | [_, _], _ => rfl
  have F_ends_on_two_sides := fun_mk (st := top 6) l_ends_on_two_sides c_ends_on_two_sides k_ends_on_two_sides
  have b_ends_on_two_sides := F_ends_on_two_sides.binds (ps := ["stretch", "other"]) fun _ _ _ _ _ _ us hl => match us, hl with | [_, _], _ => rfl
  have F_stretches_meet := fun_mk (st := top 7) l_stretches_meet c_stretches_meet k_stretches_meet
  have b_stretches_meet := F_stretches_meet.binds (ps := ["one", "other"]) fun _ _ _ _ _ _ us hl => match us, hl with | [_, _], _ => rfl
  have F_runs_back := fun_mk (st := top 8) l_runs_back c_runs_back k_runs_back
  have b_runs_back := F_runs_back.binds (ps := ["before", "stretch"]) fun _ _ _ _ _ _ us hl => match us, hl with | [_, _], _ => rfl
  have F_stretches_of := fun_mk (st := top 9) l_stretches_of c_stretches_of k_stretches_of
  have b_stretches_of := F_stretches_of.binds (ps := ["line"]) fun _ _ _ _ _ _ us hl => match us, hl with | [_], _ => rfl
  have F_stretches_clash := fun_mk (st := top 10) l_stretches_clash c_stretches_clash k_stretches_clash
  have b_stretches_clash := F_stretches_clash.binds (ps := ["line", "stretches", "i", "j"]) fun _ _ _ _ _ _ us hl => match us, hl with | [_, _, _, _], _ => rfl
  have F_is_sound := fun_mk (st := top 11) l_is_sound c_is_sound k_is_sound
  have b_is_sound := F_is_sound.binds (ps := ["line"]) fun _ _ _ _ _ _ us hl => match us, hl with | [_], _ => rfl
  have F_lines_meet := fun_mk (st := top 12) l_lines_meet c_lines_meet k_lines_meet
  have b_lines_meet := F_lines_meet.binds (ps := ["line", "other"]) fun _ _ _ _ _ _ us hl => match us, hl with | [_, _], _ => rfl
  have F_is_on := fun_mk (st := top 13) l_is_on c_is_on k_is_on
  have b_is_on := F_is_on.binds (ps := ["place", "line"]) fun _ _ _ _ _ _ us hl => match us, hl with | [_, _], _ => rfl
  have F_doubled_area := fun_mk (st := top 14) l_doubled_area c_doubled_area k_doubled_area
  have b_doubled_area := F_doubled_area.binds (ps := ["ring"]) fun _ _ _ _ _ _ us hl => match us, hl with | [_], _ => rfl
  have F_turns_round := fun_mk (st := top 15) l_turns_round c_turns_round k_turns_round
  have b_turns_round := F_turns_round.binds (ps := ["place", "ring"]) fun _ _ _ _ _ _ us hl => match us, hl with | [_, _], _ => rfl
  have F_is_granted := fun_mk (st := top 38) l_is_granted c_is_granted k_is_granted
  have b_is_granted := F_is_granted.binds (ps := ["ring", "numbers"]) fun _ _ _ _ _ _ us hl => match us, hl with | [_, _], _ => rfl
  have F_places_from := fun_mk (st := top 39) l_places_from c_places_from k_places_from
  have b_places_from := F_places_from.binds (ps := ["numbers"]) fun _ _ _ _ _ _ us hl => match us, hl with | [_], _ => rfl
  have F_free_positions := fun_mk (st := top 40) l_free_positions c_free_positions k_free_positions
  have b_free_positions := F_free_positions.binds (ps := ["line", "left"]) fun _ _ _ _ _ _ us hl => match us, hl with | [_, _], _ => rfl
  have F_corners_at := fun_mk (st := top 41) l_corners_at c_corners_at k_corners_at
  have b_corners_at := F_corners_at.binds (ps := ["line", "left", "position"]) fun _ _ _ _ _ _ us hl => match us, hl with | [_, _, _], _ => rfl
  have F_candidates := fun_mk (st := top 42) l_candidates c_candidates k_candidates
  have b_candidates := F_candidates.binds (ps := ["lines", "left"]) fun _ _ _ _ _ _ us hl => match us, hl with | [_, _], _ => rfl
  have F_places_left := fun_mk (st := top 43) l_places_left c_places_left k_places_left
  have b_places_left := F_places_left.binds (ps := ["lines", "left"]) fun _ _ _ _ _ _ us hl => match us, hl with | [_, _], _ => rfl
  have F_is_clear := fun_mk (st := top 44) l_is_clear c_is_clear k_is_clear
  have b_is_clear := F_is_clear.binds (ps := ["corners", "places"]) fun _ _ _ _ _ _ us hl => match us, hl with | [_, _], _ => rfl
  have F_next_to_go := fun_mk (st := top 45) l_next_to_go c_next_to_go k_next_to_go
  have b_next_to_go := F_next_to_go.binds (ps := ["lines", "left"]) fun _ _ _ _ _ _ us hl => match us, hl with | [_, _], _ => rfl
  have F_goings_of := fun_mk (st := top 46) l_goings_of c_goings_of k_goings_of
  have b_goings_of := F_goings_of.binds (ps := ["lines"]) fun _ _ _ _ _ _ us hl => match us, hl with | [_], _ => rfl
  have F_worths_of := fun_mk (st := top 47) l_worths_of c_worths_of k_worths_of
  have b_worths_of := F_worths_of.binds (ps := ["lines"]) fun _ _ _ _ _ _ us hl => match us, hl with | [_], _ => rfl
  have F_shown_of := fun_mk (st := top 48) l_shown_of c_shown_of k_shown_of
  have b_shown_of := F_shown_of.binds (ps := ["lines", "t"]) fun _ _ _ _ _ _ us hl => match us, hl with | [_, _], _ => rfl
  have F_line_shown := fun_mk (st := top 49) l_line_shown c_line_shown k_line_shown
  have b_line_shown := F_line_shown.binds (ps := ["lines", "t", "k"]) fun _ _ _ _ _ _ us hl => match us, hl with | [_, _, _], _ => rfl
  have F_answer_one := fun_mk (st := top 51) l_answer_one c_answer_one k_answer_one
  have b_answer_one := F_answer_one.binds (ps := ["the_map", "call"]) fun _ _ _ _ _ _ us hl => match us, hl with | [_, _], _ => rfl
  have F_length_at := fun_mk (st := top 52) l_length_at c_length_at k_length_at
  have b_length_at := F_length_at.binds (ps := ["calls", "at"]) fun _ _ _ _ _ _ us hl => match us, hl with | [_, _], _ => rfl
  have F_answers := fun_mk (st := top 53) l_answers c_answers k_answers
  have b_answers := F_answers.binds (ps := ["calls"]) fun _ _ _ _ _ _ us hl => match us, hl with | [_], _ => rfl
  refine ⟨PySem.W.fnOf "answers" "answers" (defArgs (top 53)) (defBody (top 53)) (defScope (top 53)) .none kV_answers dc_answers pm_answers an_answers cd_answers ct_answers, fun s us hu => match us, hu with | [_], _ => .of_eq rfl, fun base _ _ => ?_⟩
  · 
    have D_bend : dBend P w K mg base := ⟨⟨_, _, ok_bend F_bend , PySem.W.mg_of X G a_bend, k_bend, b_bend⟩⟩
    have D_in_box : dBox P w K mg base := ⟨⟨_, _, ok_box F_in_box B, PySem.W.mg_of X G a_in_box, k_in_box, b_in_box⟩⟩
    have D_in_triangle : dTri P w K mg base := ⟨⟨_, _, ok_tri F_in_triangle B D_bend D_in_box, PySem.W.mg_of X G a_in_triangle, k_in_triangle, b_in_triangle⟩⟩
    have D_on_stretch : dOn P w K mg base := ⟨⟨_, _, ok_on F_on_stretch D_bend D_in_box, PySem.W.mg_of X G a_on_stretch, k_on_stretch, b_on_stretch⟩⟩
    have D_ends_on_two_sides : dTwo P w K mg base := ⟨⟨_, _, ok_two F_ends_on_two_sides D_bend, PySem.W.mg_of X G a_ends_on_two_sides, k_ends_on_two_sides, b_ends_on_two_sides⟩⟩
    have D_stretches_meet : dMeet P w K mg base := ⟨⟨_, _, ok_meet F_stretches_meet D_on_stretch D_ends_on_two_sides, PySem.W.mg_of X G a_stretches_meet, k_stretches_meet, b_stretches_meet⟩⟩
    have D_runs_back : dBack P w K mg base := ⟨⟨_, _, ok_back F_runs_back D_on_stretch, PySem.W.mg_of X G a_runs_back, k_runs_back, b_runs_back⟩⟩
    have D_stretches_of : dSides C_Line P w K mg base := ⟨⟨_, _, ok_sides F_stretches_of B TLn, PySem.W.mg_of X G a_stretches_of, k_stretches_of, b_stretches_of⟩⟩
    have D_stretches_clash : dClash C_Line P w K mg base := ⟨⟨_, _, ok_clash F_stretches_clash B TLn D_runs_back D_stretches_meet, PySem.W.mg_of X G a_stretches_clash, k_stretches_clash, b_stretches_clash⟩⟩
    have D_is_sound : dSound C_Line P w K mg base := ⟨⟨_, _, ok_sound F_is_sound B TLn D_stretches_of D_stretches_clash, PySem.W.mg_of X G a_is_sound, k_is_sound, b_is_sound⟩⟩
    have D_lines_meet : dLm C_Line P w K mg base := ⟨⟨_, _, ok_lm F_lines_meet D_stretches_of D_stretches_meet, PySem.W.mg_of X G a_lines_meet, k_lines_meet, b_lines_meet⟩⟩
    have D_is_on : dIsOn C_Line P w K mg base := ⟨⟨_, _, ok_isOn F_is_on B D_stretches_of D_on_stretch, PySem.W.mg_of X G a_is_on, k_is_on, b_is_on⟩⟩
    have D_doubled_area : dArea C_Line P w K mg base := ⟨⟨_, _, ok_area F_doubled_area B D_stretches_of, PySem.W.mg_of X G a_doubled_area, k_doubled_area, b_doubled_area⟩⟩
    have D_turns_round : dRound C_Line P w K mg base := ⟨⟨_, _, ok_round F_turns_round D_stretches_of D_bend, PySem.W.mg_of X G a_turns_round, k_turns_round, b_turns_round⟩⟩
    have D_is_granted : dGrant P w K mg base := ⟨⟨_, _, ok_grant F_is_granted B N, PySem.W.mg_of X G a_is_granted, k_is_granted, b_is_granted⟩⟩
    have D_places_from : dFrom P w K mg base := ⟨⟨_, _, ok_from F_places_from B, PySem.W.mg_of X G a_places_from, k_places_from, b_places_from⟩⟩
    have D_free_positions : dFree C_Line P w K mg base := ⟨⟨_, _, ok_free F_free_positions B TLn, PySem.W.mg_of X G a_free_positions, k_free_positions, b_free_positions⟩⟩
    have D_corners_at : dCorn C_Line P w K mg base := ⟨⟨_, _, ok_corn F_corners_at B TLn, PySem.W.mg_of X G a_corners_at, k_corners_at, b_corners_at⟩⟩
    have D_candidates : dCands C_Line P w K mg base := ⟨⟨_, _, ok_cands F_candidates B D_free_positions D_corners_at D_bend, PySem.W.mg_of X G a_candidates, k_candidates, b_candidates⟩⟩
    have D_places_left : dPlaces C_Line P w K mg base := ⟨⟨_, _, ok_places F_places_left B TLn, PySem.W.mg_of X G a_places_left, k_places_left, b_places_left⟩⟩
    have D_is_clear : dClear P w K mg base := ⟨⟨_, _, ok_clear F_is_clear D_in_triangle, PySem.W.mg_of X G a_is_clear, k_is_clear, b_is_clear⟩⟩
    have D_next_to_go : dNext C_Line P w K mg base := ⟨⟨_, _, ok_next F_next_to_go D_places_left D_candidates D_is_clear, PySem.W.mg_of X G a_next_to_go, k_next_to_go, b_next_to_go⟩⟩
    have D_goings_of : dGo C_Line P w K mg base := ⟨⟨_, _, ok_go F_goings_of B TLn D_next_to_go, PySem.W.mg_of X G a_goings_of, k_goings_of, b_goings_of⟩⟩
    have D_worths_of : dWorths C_Line P w K mg base := ⟨⟨_, _, ok_worths F_worths_of D_goings_of, PySem.W.mg_of X G a_worths_of, k_worths_of, b_worths_of⟩⟩
    have D_shown_of : dShown C_Line P w K mg base := ⟨⟨_, _, ok_shown F_shown_of B TLn D_worths_of, PySem.W.mg_of X G a_shown_of, k_shown_of, b_shown_of⟩⟩
    have GIL : FnOk P w K mg base CX0 1 f_Line_init _ ["self", "ring", "points"] (spLineInit C_Line) := ok_lineInit F_Line_init TLn
    have D_line_shown : dLs C_Line P w K mg base := ⟨⟨_, _, ok_ls F_line_shown TLn D_shown_of MKL GIL b_Line_init, PySem.W.mg_of X G a_line_shown, k_line_shown, b_line_shown⟩⟩
    have D_length_at : dLen P w K mg base := ⟨⟨_, _, ok_len F_length_at N2 NM, PySem.W.mg_of X G a_length_at, k_length_at, b_length_at⟩⟩
    have M_line : Mn P w K mg base C_Map 6 "line" ["self", "ring", "numbers"] (spMLine C_Map C_Line) := ⟨⟨_, _, ok_mline F_Map_line B N T TLn D_is_granted D_places_from D_is_sound D_lines_meet MKL GIL b_Line_init, ⟨a_Map_line, i_Map_line, k_Map_line⟩, b_Map_line⟩⟩
    have M_drop : Mn P w K mg base C_Map 1 "drop" ["self", "k"] (spMDrop C_Map C_Line) := ⟨⟨_, _, ok_mdrop F_Map_drop B N T, ⟨a_Map_drop, i_Map_drop, k_Map_drop⟩, b_Map_drop⟩⟩
    have M_order : Mn P w K mg base C_Map 6 "order" ["self"] (spMOrder C_Map C_Line) := ⟨⟨_, _, ok_morder F_Map_order B T D_goings_of, ⟨a_Map_order, i_Map_order, k_Map_order⟩, b_Map_order⟩⟩
    have M_worth : Mn P w K mg base C_Map 7 "worth" ["self", "k", "i"] (spMWorth C_Map C_Line) := ⟨⟨_, _, ok_mworth F_Map_worth B N T TLn D_worths_of, ⟨a_Map_worth, i_Map_worth, k_Map_worth⟩, b_Map_worth⟩⟩
    have M_shown : Mn P w K mg base C_Map 8 "shown" ["self", "t", "k"] (spMShown C_Map C_Line) := ⟨⟨_, _, ok_mshown F_Map_shown B N T D_shown_of, ⟨a_Map_shown, i_Map_shown, k_Map_shown⟩, b_Map_shown⟩⟩
    have M_counts : Mn P w K mg base C_Map 8 "counts" ["self", "t"] (spMCounts C_Map C_Line) := ⟨⟨_, _, ok_mcounts F_Map_counts B T D_shown_of, ⟨a_Map_counts, i_Map_counts, k_Map_counts⟩, b_Map_counts⟩⟩
    have M_few : Mn P w K mg base C_Map 6 "few" ["self", "n"] (spMFew C_Map C_Line) := ⟨⟨_, _, ok_mfew F_Map_few B N2 T TLn D_goings_of, ⟨a_Map_few, i_Map_few, k_Map_few⟩, b_Map_few⟩⟩
    have M_area : Mn P w K mg base C_Map 9 "area" ["self", "t", "k"] (spMArea C_Map C_Line) := ⟨⟨_, _, ok_marea F_Map_area B N N2 T TLn D_line_shown D_doubled_area, ⟨a_Map_area, i_Map_area, k_Map_area⟩, b_Map_area⟩⟩
    have M_turns : Mn P w K mg base C_Map 9 "turns" ["self", "t", "k", "place"] (spMTurns C_Map C_Line) := ⟨⟨_, _, ok_mturns F_Map_turns B N N2 T TLn D_line_shown D_is_on D_turns_round, ⟨a_Map_turns, i_Map_turns, k_Map_turns⟩, b_Map_turns⟩⟩
    have D_one : dOne C_Map C_Line P w K mg base := ⟨⟨_, _, ok_one F_answer_one N2 T M_line M_drop M_order M_worth M_shown M_counts M_few M_area M_turns, PySem.W.mg_of X G a_answer_one, k_answer_one, b_answer_one⟩⟩
    have GIM : FnOk P w K mg base CX0 1 f_Map_init _ ["self"] (spMapInit C_Map) := ok_mapInit F_Map_init T
    exact ok_ans F_answers B T D_length_at D_one MKM GIM b_Map_init
end PL
open PySem PySem.W PyProof.Rows
set_option maxRecDepth 100000 in
set_option maxHeartbeats 0 in
theorem PySem.Challenge.cw_plainerlines_s01_answers_holds : PySem.Challenge.rw_plainerlines_s01_answers.Holds := by
  w_on; k_headS; (case hw => exact ⟨[.list [.int 2]], by decide +kernel, by decide +kernel⟩)
  k_fillS
  refine L2.walk_specK (r := PySem.Challenge.rw_plainerlines_s01_answers) (k := 11) (CX := L2.CX0) (ps := ["calls"]) (sp := PL.spAns) (by decide +kernel) rfl rfl ⟨rfl, by decide, by decide⟩ (fun w h Y => PySem.W.kIn_of Y) ?F ?S (fun _ _ _ _ z => z)
  case F =>
    intro w mg fa h Y KX G hmg
    refine' PL.all_mk KX G hmg ?g_Line ?a_Line_init ?i_Line_init ?l_Line_init ?c_Line_init ?k_Line_init ?pg_Line ?hd_Line ?po_Line ?sa_Line ?mk_Line ?kc_Line ?n_Line_ring ?n_Line_points ?g_Map ?a_Map_init ?i_Map_init ?l_Map_init ?c_Map_init ?k_Map_init ?a_Map_line ?i_Map_line ?l_Map_line ?c_Map_line ?k_Map_line ?a_Map_drop ?i_Map_drop ?l_Map_drop ?c_Map_drop ?k_Map_drop ?a_Map_order ?i_Map_order ?l_Map_order ?c_Map_order ?k_Map_order ?a_Map_worth ?i_Map_worth ?l_Map_worth ?c_Map_worth ?k_Map_worth ?a_Map_shown ?i_Map_shown ?l_Map_shown ?c_Map_shown ?k_Map_shown ?a_Map_counts ?i_Map_counts ?l_Map_counts ?c_Map_counts ?k_Map_counts ?a_Map_few ?i_Map_few ?l_Map_few ?c_Map_few ?k_Map_few ?a_Map_area ?i_Map_area ?l_Map_area ?c_Map_area ?k_Map_area ?a_Map_turns ?i_Map_turns ?l_Map_turns ?c_Map_turns ?k_Map_turns ?pg_Map ?hd_Map ?po_Map ?sa_Map ?mk_Map ?kc_Map ?n_Map_lines ?a_bend ?l_bend ?c_bend ?k_bend ?a_in_box ?l_in_box ?c_in_box ?k_in_box ?a_in_triangle ?l_in_triangle ?c_in_triangle ?k_in_triangle ?a_on_stretch ?l_on_stretch ?c_on_stretch ?k_on_stretch ?a_ends_on_two_sides ?l_ends_on_two_sides ?c_ends_on_two_sides ?k_ends_on_two_sides ?a_stretches_meet ?l_stretches_meet ?c_stretches_meet ?k_stretches_meet ?a_runs_back ?l_runs_back ?c_runs_back ?k_runs_back ?a_stretches_of ?l_stretches_of ?c_stretches_of ?k_stretches_of ?a_stretches_clash ?l_stretches_clash ?c_stretches_clash ?k_stretches_clash ?a_is_sound ?l_is_sound ?c_is_sound ?k_is_sound ?a_lines_meet ?l_lines_meet ?c_lines_meet ?k_lines_meet ?a_is_on ?l_is_on ?c_is_on ?k_is_on ?a_doubled_area ?l_doubled_area ?c_doubled_area ?k_doubled_area ?a_turns_round ?l_turns_round ?c_turns_round ?k_turns_round ?a_is_granted ?l_is_granted ?c_is_granted ?k_is_granted ?a_places_from ?l_places_from ?c_places_from ?k_places_from ?a_free_positions ?l_free_positions ?c_free_positions ?k_free_positions ?a_corners_at ?l_corners_at ?c_corners_at ?k_corners_at ?a_candidates ?l_candidates ?c_candidates ?k_candidates ?a_places_left ?l_places_left ?c_places_left ?k_places_left ?a_is_clear ?l_is_clear ?c_is_clear ?k_is_clear ?a_next_to_go ?l_next_to_go ?c_next_to_go ?k_next_to_go ?a_goings_of ?l_goings_of ?c_goings_of ?k_goings_of ?a_worths_of ?l_worths_of ?c_worths_of ?k_worths_of ?a_shown_of ?l_shown_of ?c_shown_of ?k_shown_of ?a_line_shown ?l_line_shown ?c_line_shown ?k_line_shown ?a_answer_one ?l_answer_one ?c_answer_one ?k_answer_one ?a_length_at ?l_length_at ?c_length_at ?k_length_at ?a_answers ?l_answers ?c_answers ?k_answers ?z_abs ?z_any ?z_enumerate ?z_len ?z_list ?z_max ?z_min ?z_range ?z_set ?z_sorted ?z_sum ?z_zip ?v_LINE ?v_DROP ?v_ORDER ?v_WORTH ?v_SHOWN ?v_COUNTS ?v_FEW ?v_AREA ?v_NUMBERS ?l_NUMBERS ?t_NUMBERS ?v_NOT_GRANTED ?v_NOT_SOUND ?v_NO_LINE ?v_NO_POINT ?v_NO_RING ?v_TOO_MANY_LINES ?v_LINES_MEET ?v_ON_THE_RING ?v_NEVER_SO_FEW ?v_MOST_LINES ?v_MOST_POINTS ?v_MOST_ACROSS
    (case g_Line => k_is)
    (case a_Line_init => k_is)
    (case i_Line_init => k_is)
    (case l_Line_init => k_is)
    (case c_Line_init => k_is)
    (case k_Line_init => k_is)
    (case pg_Line => k_is)
    (case hd_Line => k_is)
    (case po_Line => k_is)
    (case sa_Line => k_is)
    (case mk_Line => k_is)
    (case kc_Line => k_is)
    (case n_Line_ring => k_is)
    (case n_Line_points => k_is)
    (case g_Map => k_is)
    (case a_Map_init => k_is)
    (case i_Map_init => k_is)
    (case l_Map_init => k_is)
    (case c_Map_init => k_is)
    (case k_Map_init => k_is)
    (case a_Map_line => k_is)
    (case i_Map_line => k_is)
    (case l_Map_line => k_is)
    (case c_Map_line => k_is)
    (case k_Map_line => k_is)
    (case a_Map_drop => k_is)
    (case i_Map_drop => k_is)
    (case l_Map_drop => k_is)
    (case c_Map_drop => k_is)
    (case k_Map_drop => k_is)
    (case a_Map_order => k_is)
    (case i_Map_order => k_is)
    (case l_Map_order => k_is)
    (case c_Map_order => k_is)
    (case k_Map_order => k_is)
    (case a_Map_worth => k_is)
    (case i_Map_worth => k_is)
    (case l_Map_worth => k_is)
    (case c_Map_worth => k_is)
    (case k_Map_worth => k_is)
    (case a_Map_shown => k_is)
    (case i_Map_shown => k_is)
    (case l_Map_shown => k_is)
    (case c_Map_shown => k_is)
    (case k_Map_shown => k_is)
    (case a_Map_counts => k_is)
    (case i_Map_counts => k_is)
    (case l_Map_counts => k_is)
    (case c_Map_counts => k_is)
    (case k_Map_counts => k_is)
    (case a_Map_few => k_is)
    (case i_Map_few => k_is)
    (case l_Map_few => k_is)
    (case c_Map_few => k_is)
    (case k_Map_few => k_is)
    (case a_Map_area => k_is)
    (case i_Map_area => k_is)
    (case l_Map_area => k_is)
    (case c_Map_area => k_is)
    (case k_Map_area => k_is)
    (case a_Map_turns => k_is)
    (case i_Map_turns => k_is)
    (case l_Map_turns => k_is)
    (case c_Map_turns => k_is)
    (case k_Map_turns => k_is)
    (case pg_Map => k_is)
    (case hd_Map => k_is)
    (case po_Map => k_is)
    (case sa_Map => k_is)
    (case mk_Map => k_is)
    (case kc_Map => k_is)
    (case n_Map_lines => k_is)
    (case a_bend => k_is)
    (case l_bend => k_is)
    (case c_bend => k_is)
    (case k_bend => k_is)
    (case a_in_box => k_is)
    (case l_in_box => k_is)
    (case c_in_box => k_is)
    (case k_in_box => k_is)
    (case a_in_triangle => k_is)
    (case l_in_triangle => k_is)
    (case c_in_triangle => k_is)
    (case k_in_triangle => k_is)
    (case a_on_stretch => k_is)
    (case l_on_stretch => k_is)
    (case c_on_stretch => k_is)
    (case k_on_stretch => k_is)
    (case a_ends_on_two_sides => k_is)
    (case l_ends_on_two_sides => k_is)
    (case c_ends_on_two_sides => k_is)
    (case k_ends_on_two_sides => k_is)
    (case a_stretches_meet => k_is)
    (case l_stretches_meet => k_is)
    (case c_stretches_meet => k_is)
    (case k_stretches_meet => k_is)
    (case a_runs_back => k_is)
    (case l_runs_back => k_is)
    (case c_runs_back => k_is)
    (case k_runs_back => k_is)
    (case a_stretches_of => k_is)
    (case l_stretches_of => k_is)
    (case c_stretches_of => k_is)
    (case k_stretches_of => k_is)
    (case a_stretches_clash => k_is)
    (case l_stretches_clash => k_is)
    (case c_stretches_clash => k_is)
    (case k_stretches_clash => k_is)
    (case a_is_sound => k_is)
    (case l_is_sound => k_is)
    (case c_is_sound => k_is)
    (case k_is_sound => k_is)
    (case a_lines_meet => k_is)
    (case l_lines_meet => k_is)
    (case c_lines_meet => k_is)
    (case k_lines_meet => k_is)
    (case a_is_on => k_is)
    (case l_is_on => k_is)
    (case c_is_on => k_is)
    (case k_is_on => k_is)
    (case a_doubled_area => k_is)
    (case l_doubled_area => k_is)
    (case c_doubled_area => k_is)
    (case k_doubled_area => k_is)
    (case a_turns_round => k_is)
    (case l_turns_round => k_is)
    (case c_turns_round => k_is)
    (case k_turns_round => k_is)
    (case a_is_granted => k_is)
    (case l_is_granted => k_is)
    (case c_is_granted => k_is)
    (case k_is_granted => k_is)
    (case a_places_from => k_is)
    (case l_places_from => k_is)
    (case c_places_from => k_is)
    (case k_places_from => k_is)
    (case a_free_positions => k_is)
    (case l_free_positions => k_is)
    (case c_free_positions => k_is)
    (case k_free_positions => k_is)
    (case a_corners_at => k_is)
    (case l_corners_at => k_is)
    (case c_corners_at => k_is)
    (case k_corners_at => k_is)
    (case a_candidates => k_is)
    (case l_candidates => k_is)
    (case c_candidates => k_is)
    (case k_candidates => k_is)
    (case a_places_left => k_is)
    (case l_places_left => k_is)
    (case c_places_left => k_is)
    (case k_places_left => k_is)
    (case a_is_clear => k_is)
    (case l_is_clear => k_is)
    (case c_is_clear => k_is)
    (case k_is_clear => k_is)
    (case a_next_to_go => k_is)
    (case l_next_to_go => k_is)
    (case c_next_to_go => k_is)
    (case k_next_to_go => k_is)
    (case a_goings_of => k_is)
    (case l_goings_of => k_is)
    (case c_goings_of => k_is)
    (case k_goings_of => k_is)
    (case a_worths_of => k_is)
    (case l_worths_of => k_is)
    (case c_worths_of => k_is)
    (case k_worths_of => k_is)
    (case a_shown_of => k_is)
    (case l_shown_of => k_is)
    (case c_shown_of => k_is)
    (case k_shown_of => k_is)
    (case a_line_shown => k_is)
    (case l_line_shown => k_is)
    (case c_line_shown => k_is)
    (case k_line_shown => k_is)
    (case a_answer_one => k_is)
    (case l_answer_one => k_is)
    (case c_answer_one => k_is)
    (case k_answer_one => k_is)
    (case a_length_at => k_is)
    (case l_length_at => k_is)
    (case c_length_at => k_is)
    (case k_length_at => k_is)
    (case a_answers => k_is)
    (case l_answers => k_is)
    (case c_answers => k_is)
    (case k_answers => k_is)
    (case z_abs => k_is)
    (case z_any => k_is)
    (case z_enumerate => k_is)
    (case z_len => k_is)
    (case z_list => k_is)
    (case z_max => k_is)
    (case z_min => k_is)
    (case z_range => k_is)
    (case z_set => k_is)
    (case z_sorted => k_is)
    (case z_sum => k_is)
    (case z_zip => k_is)
    (case v_LINE => k_is)
    (case v_DROP => k_is)
    (case v_ORDER => k_is)
    (case v_WORTH => k_is)
    (case v_SHOWN => k_is)
    (case v_COUNTS => k_is)
    (case v_FEW => k_is)
    (case v_AREA => k_is)
    (case v_NUMBERS => k_is)
    (case l_NUMBERS => k_is)
    (case t_NUMBERS => first | rfl | decide +kernel | kernel_rfl)
    (case v_NOT_GRANTED => k_is)
    (case v_NOT_SOUND => k_is)
    (case v_NO_LINE => k_is)
    (case v_NO_POINT => k_is)
    (case v_NO_RING => k_is)
    (case v_TOO_MANY_LINES => k_is)
    (case v_LINES_MEET => k_is)
    (case v_ON_THE_RING => k_is)
    (case v_NEVER_SO_FEW => k_is)
    (case v_MOST_LINES => k_is)
    (case v_MOST_POINTS => k_is)
    (case v_MOST_ACROSS => k_is)
  case S =>
    intro K H xs a hO hwi hask hx
    cases hx with
    | cons h1 h2 =>
      cases h2
      cases h1 with
      | lst hs ha =>
        have e := L2.ints_dw a.1 _ ha
        subst e
        have q : ((Codec.inLen 0 1300 a.1 && a.1.all (Codec.inInt 0 4294967295)) && true) = true := hwi
        rw [Bool.and_eq_true, Bool.and_eq_true] at q
        exact ⟨_, a.1, rfl, hs, (Codec.inNat_iff.mp q.1.1).2, fun z hz => Codec.inInt_iff.mp (List.all_eq_true.mp q.1.2 z hz), hask, fun H' p hp => .lst (L2.SqL.of hp) (L2.dw_ints _)⟩
